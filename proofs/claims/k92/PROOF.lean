import PyProof.Rows.All
import Wide.All
import OpenK.AllK
import Wide.FinOn
import Lean
import PyProof.EqAt
import PyProof.EqKinds
import PyProof.TupleCall
import PySem.Challenge.RW_backindex_k92_desk_loads
import KE.KRevIter
import KE.KSortAsk
import KE.KSortTup
import PyProof.Rows.SortKeyStr
import KE.KLam
import KE.KSortKey
import OpenK.KOwn
import KE.RegKIsAll
import PyProof.EnumMake
import PyProof.EnumFor
import PyProof.EnumStmt
import KE.KNestM
import PyProof.Rows.CallKwBuiltin
import PyProof.StrWalks
import KE.KDictOf
import PyProof.CompUse
import PyProof.NeKinds
import PyProof.ZipIter
import PyProof.Rows.SumAny
import PyProof.Rows.SetFrom
import PyProof.ListRange
import PyProof.StrLawsIn
import PyProof.CollectIter
import PyProof.JoinWalk
import PyProof.Conv_int_bool
import KE.IntBitsLaws
import PyProof.FactsAll.str
import PyProof.ListStr
import PyProof.Draws
import PyProof.CallStr
import PyProof.StrLawsFrom
import PyProof.Rows.StrNews2
import PyProof.StrCalls
import KE.KIntText
import PyProof.Rows.RegStrFacts
import PyProof.DictWalks
import PyProof.AttrMissHeap
import PyProof.LongRange
import PyProof.Rows.Range3
import PyProof.Rows.StrSplitMax
import OpenK.KTop
import PyProof.Rows.Chain
set_option Elab.async false
set_option linter.all false
set_option maxRecDepth 100000
set_option maxHeartbeats 4000000
namespace PySem.W.Fast
def tw9858902164091157019:=0
def tw17413665457829741588:=0
def tw12517623727597062957:=0
def tw7900460778235108211:=0
def tw14222158100389587191:=0
def tw3374866939846599734:=0
def tw5724472965676440346:=0
def tw2824908307657175359:=0
def tw11560185385954750174:=0
def tw3546877019997033226:=0
def tw9337169817020629102:=0
def tw7176644349479172944:=0
def tw3215698867205784681:=0
def tw2331715381629261108:=0
def tw15603062542469892140:=0
def tw10690369069783605850:=0
def tw5896859829243880240:=0
def tw5248820002864051609:=0
def tw16892176195821621906:=0
def tw4410330332234906455:=0
def tw17743103308550341641:=0
def tw17558773454117494721:=0
def tw18257676415882435016:=0
def tw14660674632131083150:=0
def tw1149566858002470547:=0
def tw5810048383855552748:=0
def tw17115387323807545296:=0
def tw10883608312449731983:=0
def tw8950800058901663354:=0
def tw1053128393916672500:=0
def tw6590188363703991359:=0
def tw9332287147756756736:=0
def tw8330087285179849570:=0
def tw4847971365445592595:=0
def tw3926820414048698755:=0
def tw9148423011582528639:=0
def tw9129391010658520575:=0
def tw6761370673051213324:=0
def tw9651932938858290609:=0
def tw8428160514984904196:=0
def tw9849309503485413614:=0
def tw12718302229709747569:=0
def tw4950001579239471306:=0
def tw15913252224055172368:=0
def tw10386501931558714498:=0
def tw11294881930427631470:=0
def tw18442722917049893137:=0
def tw6475823152303510679:=0
def tw17300780183137714140:=0
def tw10863219079379551070:=0
def tw8963500274169685506:=0
def tw849063267114129583:=0
def tw170404602110528686:=0
def tw17959327437026841557:=0
def tw7625800416305480554:=0
def tw8356203023994703634:=0
def tw17702213369795796070:=0
def tw1041794727596596819:=0
def tw10889329460421904547:=0
def tw11535223673059358604:=0
def tw5705412619506943726:=0
def tw14948270632237026558:=0
def tw13703562957150891995:=0
def tw8626593719334309242:=0
def tw5682143413763467484:=0
def tw12344273320746091237:=0
def tw203425355009534007:=0
def tw5590673011973245435:=0
def tw16643721410897387382:=0
def tw7293577885419461272:=0
def tw9161162456485037840:=0
def tw9160020908827742414:=0
def tw581667169322299584:=0
def tw5798680527013915994:=0
def tw9056133339370468231:=0
def tw14482248463078299500:=0
def tw11268436718678620599:=0
def tw13628210026796177758:=0
def tw11124305417842276744:=0
def tw1807894202000860691:=0
def tw12537229128519604417:=0
def tw14744542756229810762:=0
def tw8960264507691229010:=0
def tw9402562353733247498:=0
def tw8276615095796049278:=0
def tw89924120027524080:=0
def tw9218361219834957719:=0
def tw15682559670083183032:=0
def tw1952349523702359343:=0
def tw12222442996959411959:=0
def tw16859240772196318947:=0
def tw15429004615471394371:=0
def tw16492588979030008699:=0
def tw11515672207662561060:=0
def tw4282842931444549362:=0
def tw16177979024425397316:=0
def tw6738190613479246002:=0
def tw16944651686631784067:=0
def tw4313291610140921385:=0
def tw16371263548912869651:=0
def tw15126550440690930053:=0
def tw8961389156134458626:=0
def tw9450714919279122420:=0
def tw14107918032468340161:=0
def tw9266812142675190342:=0
def tw5280576142378232719:=0
def tw11805211956042158891:=0
def tw15986356847630113494:=0
def tw14443894545069136573:=0
def tw17866545550461744502:=0
def tw6321612075542043559:=0
def tw13677180768186466738:=0
def tw10472405821239590803:=0
def tw2341295660452807512:=0
def tw4752269173688774046:=0
def tw9346429681935007453:=0
def tw10578885526261263315:=0
def tw1751105327072759146:=0
def tw16629201274511460408:=0
def tw15618553978327237212:=0
def tw9915260813803819031:=0
def tw13906749862964282097:=0
def tw2708969000432779166:=0
def tw98457239554883804:=0
def tw7046688917650045979:=0
def tw7889634547955950315:=0
def tw1671310247018806309:=0
def tw2728606520092168235:=0
def tw7268329360975677711:=0
def tw1325890605118002882:=0
def tw6425931142594182910:=0
def tw43983680856759950:=0
def tw7328977758446715519:=0
def tw11685540756575404624:=0
def tw6433945657832499711:=0
def tw6429345835988556905:=0
def tw12072453124724379267:=0
def tw746394153302135360:=0
def tw7732623716066724349:=0
def tw892049669679761270:=0
def tw15913856971543524906:=0
def tw18127813381879643263:=0
def tw5046761187699547142:=0
def tw17719589011484113535:=0
def tw11068394517882043269:=0
def tw10563414668807379169:=0
def tw17116328697847956891:=0
def tw15566968396835890756:=0
def tw11616974172658900094:=0
def tw4028879295945058706:=0
def tw5325894855138914869:=0
def tw3512871274763561749:=0
def tw5123983886075214957:=0
def tw10192480618915405530:=0
def tw6789958633972546307:=0
def tw932037517273264420:=0
def tw13781805752771984177:=0
def tw4027209593312198643:=0
def tw16836650989868108314:=0
def tw9162162697655859906:=0
def tw3516159835116456051:=0
def tw15511846924413889197:=0
def tw7061098064702021756:=0
def tw18009095475826059115:=0
def tw14257684707169809775:=0
def tw17071284685964089549:=0
def tw5203892570057713904:=0
def tw838114396489515884:=0
def tw1035318841792306534:=0
def tw7831566348063958970:=0
def tw630299410974667273:=0
def tw432631473319060572:=0
def tw15037878474870042545:=0
def tw13003283404803702496:=0
def tw9029688195433002035:=0
def tw9357089705654807886:=0
def tw716817770848508267:=0
def tw3205552326892452303:=0
def tw12781044202683158547:=0
def tw257098067787521524:=0
def tw2770009927707708746:=0
def tw6057712025118631516:=0
def tw17928209997896308678:=0
def tw4314722614098512996:=0
def tw5391752710206559119:=0
def tw15203871100808056522:=0
def tw4176825820327112593:=0
def tw14713409623842557674:=0
def tw14437500797608748003:=0
def tw14578200537357080981:=0
def tw16539470253612668474:=0
def tw8301665529329494165:=0
def tw6140894634630746846:=0
def tw7801147456705528750:=0
def tw9160443035579021020:=0
def tw10572330216843781428:=0
def tw15283098396399988588:=0
def tw18421973697056071016:=0
def tw143210618475503112:=0
def tw18317133471101166917:=0
def tw18109889750410537748:=0
def tw1506974428702414580:=0
def tw5066414176584143049:=0
def tw8091364802982686561:=0
def tw17929181274337290458:=0
def tw5665541960121622676:=0
def tw10684258512300581533:=0
def tw11500117975252133069:=0
end PySem.W.Fast
noncomputable section
open List (append_assoc append_nil cons_append length_append length_cons length_drop length_eq_zero_iff length_map length_nil length_range length_replicate length_reverse length_singleton length_take map_append map_congr_left map_cons map_map map_nil map_reverse map_singleton map_take mem_append mem_append_left mem_append_right mem_cons mem_cons_of_mem mem_cons_self mem_singleton nil_append replicate_succ replicate_zero set_cons_succ set_cons_zero size_toArray)
open PySem.W (CodeHd InstAt KitX callWith_K cellsFrom_some clsIn codeHdIn codeHd_of_K codeIn emptyDict excIn findIn fnOf handedIn hasDictIn hideAll hideAll_get instObj isFn kas_ask kas_item kas_range kat_run kat_snds keepIn kia_one kitAny kitOne kitx_list kla_fn kla_obj lookIn looks_findIn looks_mroIn makesIn methodCall_KW methodObj mg_none_of mg_of mroIn nsIn of_hideAll plainGet plainGet_of plainOver recIn specialIn tabObj takerIn takesIn typeIn)
noncomputable section
namespace L2
open PySem PySem.Spec PyProof.Rows
abbrev Key:=Sum Int Str
def ZdN:Key->Value->Bool
 | .inl k,v=>Value.isInt k v
 | .inr x,v=>Value.isStrOf x v
def ZBd (w:World):Key->Int
 | .inl k=>hashInt k
 | .inr x=>hashStr w x
theorem Yn:∀{k:Key} {v:Value},ZdN k v=true->(∃i t,k=Sum.inl i/\v=Value.int i t)\/(∃x t,k=Sum.inr x/\v=Value.str x t)
 | .inl i,v,h=>by
   obtain ⟨t,e⟩:=Value.isInt_shape (k:=i) (v:=v) h
   exact .inl ⟨i,t,rfl,e⟩
 | .inr x,v,h=>by
   obtain ⟨t,e⟩:=Value.isStrOf_shape (x:=x) (v:=v) h
   exact .inr ⟨x,t,rfl,e⟩
theorem Zlv (i:Int) (t:Tok):ZdN (.inl i) (.int i t)=true:=by simp [ZdN,Value.isInt]
theorem ZkX (x:Str) (t:Tok):ZdN (.inr x) (.str x t)=true:=by simp [ZdN,Value.isStrOf]
theorem ZuL (a b:Int):decide ((Sum.inl a:Key)=Sum.inl b)=(a==b):=by
 by_cases e:a=b
 ·subst e;simp
 ·have h:¬(Sum.inl a:Key)=Sum.inl b:=fun q=>e (Sum.inl.inj q)
  rw [decide_eq_false h]
  exact (beq_eq_false_iff_ne.mpr e).symm
theorem ZsM (a b:Str):decide ((Sum.inr a:Key)=Sum.inr b)=decide (a=b):=by
 by_cases e:a=b
 ·subst e;simp
 ·have h:¬(Sum.inr a:Key)=Sum.inr b:=fun q=>e (Sum.inr.inj q)
  rw [decide_eq_false h,decide_eq_false e]
theorem Zsa (a:Int) (b:Str):decide ((Sum.inl a:Key)=Sum.inr b)=false:=decide_eq_false (fun q=>nomatch q)
theorem Zw8 (a:Str) (b:Int):decide ((Sum.inr a:Key)=Sum.inl b)=false:=decide_eq_false (fun q=>nomatch q)
def z4 (prog:Program) (w:World):PySem.KeyKind prog w Key where
 is:=ZdN
 hash:=ZBd w
 inj:=fun v a b ha hb=>by
  rcases Yn ha with ⟨i,t,rfl,rfl⟩|⟨x,t,rfl,rfl⟩
  ·rcases Yn hb with ⟨j,u,rfl,e⟩|⟨y,u,rfl,e⟩
   ·injection e with e1 _;rw [e1]
   ·exact nomatch e
  ·rcases Yn hb with ⟨j,u,rfl,e⟩|⟨y,u,rfl,e⟩
   ·exact nomatch e
   ·injection e with e1 _;rw [e1]
 byValue:=fun k v h=>by
  rcases Yn h with ⟨i,t,rfl,rfl⟩|⟨x,t,rfl,rfl⟩<;>rfl
 pyHash:=fun hv h=>by
  rcases Yn hv with ⟨i,t,rfl,rfl⟩|⟨x,t,rfl,rfl⟩
  ·exact wpAny_pyHash_int h
  ·exact wpAny_pyHash_str h
 eqBool:=fun hu hv h=>by
  rcases Yn hu with ⟨i,t,rfl,rfl⟩|⟨x,t,rfl,rfl⟩
  ·rcases Yn hv with ⟨j,u,rfl,rfl⟩|⟨y,u,rfl,rfl⟩
   ·rw [ZuL] at h;exact wpAny_eqBool_int h
   ·rw [Zsa] at h;exact SeqAt.EqAt.int_str i t y u _ _ _ _ h
  ·rcases Yn hv with ⟨j,u,rfl,rfl⟩|⟨y,u,rfl,rfl⟩
   ·rw [Zw8] at h;exact SeqAt.EqAt.str_int x t j u _ _ _ _ h
   ·rw [ZsM] at h;exact wpAny_eqBool_str h
 «strs»:=fun k x t v h=>by
  rcases Yn h with ⟨i,u,rfl,e⟩|⟨y,u,rfl,e⟩
  ·exact nomatch e
  ·injection e with e1 _
   subst e1
   cases v<;>rfl
theorem Zia (prog:Program) (w:World) (i:Int) (t:Tok):(z4 prog w).is (.inl i) (.int i t)=true:=Zlv i t
theorem Zh0 (prog:Program) (w:World) (x:Str) (t:Tok):(z4 prog w).is (.inr x) (.str x t)=true:=ZkX x t
inductive V where
 |non|bl (b:Bool)|int (i:Int)|str (x:Str)|byt (b:Array UInt8)|flt (b:UInt64)|ref (a:Addr)|ty (n:String)
 deriving DecidableEq
def Z2:V->Value->Prop
 | .non,u=>u=Value.none
 | .bl b,u=>u=Value.bool b
 | .int i,u=>∃t,u=Value.int i t
 | .str x,u=>∃t,u=Value.str x t
 | .byt b,u=>∃t,u=Value.bytes b t
 | .flt b,u=>∃t,u=Value.float b t
 | .ref a,u=>u=Value.ref a
 | .ty n,u=>u=Value.type n
abbrev ZD:List V->List Value->Prop:=Paired Z2
theorem ZD.length {xs:List V} {us:List Value} (r:ZD xs us):xs.length=us.length:=Paired.length r
theorem ZD.get:∀{xs:List V} {us:List Value} {i:Nat} {x:V},ZD xs us->xs[i]?=some x->∃u,us[i]?=some u/\Z2 x u
 |_,_,_,_,.nil,e=>by simp at e
 |_,_,0,_,.cons r _,e=>by simp at e;subst e;exact ⟨_,rfl,r⟩
 |_,_,i+1,x,.cons _ t,e=>by
  obtain ⟨u,h1,h2⟩:=ZD.get (i:=i) (x:=x) t (by simpa using e)
  exact ⟨u,by simpa using h1,h2⟩
theorem ZD.append:∀{xs ys:List V} {us ws:List Value},ZD xs us->ZD ys ws->ZD (xs++ys) (us++ws)
 |_,_,_,_,.nil,s=>s
 |_,_,_,_,.cons r t,s=>.cons r (ZD.append t s)
theorem ZD.take:∀{xs:List V} {us:List Value} (n:Nat),ZD xs us->ZD (xs.take n) (us.take n)
 |_,_,0,_=>.nil
 |_,_,_+1,.nil=>.nil
 |_,_,n+1,.cons r t=>.cons r (ZD.take n t)
theorem ZD.drop:∀{xs:List V} {us:List Value} (n:Nat),ZD xs us->ZD (xs.drop n) (us.drop n)
 |_,_,0,r=>r
 |_,_,_+1,.nil=>.nil
 |_,_,n+1,.cons _ t=>ZD.drop n t
def Zcj:Option V->Option Value->Prop
 |some v,some u=>Z2 v u
 |none,none=>True
 |_,_=>False
def KV {κ:Type}:List (κ×V)->List (κ×Value)->Prop:=Paired fun (p:κ×V) (q:κ×Value)=>p.1=q.1/\Z2 p.2 q.2
def kV:Key->V
 | .inl i=>.int i
 | .inr x=>.str x
inductive HO where
 |lst (xs:List V)
 |tup (xs:List V)
 |dK (kvs:List (Key×V))|dT (kvs:List (List Key×V))
 |set (S:Int->Bool) (n:Nat)
 |ins (C dx:Addr) (fs:List (Str×V))
 |own (x:Addr)
 |xd (fs:List (Str×V))
 |met (f x:Addr)
 |rng (lo hi:Int)
 |frz (o:Obj) (u:HO)
 |tbl (ps:Array Value)
 |ext (φ:Heap->Prop)
abbrev Hp:=Addr->Option HO
def upd (H:Hp) (a:Addr) (o:HO):Hp:=fun b=>if b=a then some o else H b
theorem Zj {H:Hp} {a:Addr} {o:HO}:upd H a o a=some o:=by unfold upd;rw [if_pos rfl]
theorem Zn {H:Hp} {a b:Addr} {o:HO} (h:b≠a):upd H a o b=H b:=by unfold upd;rw [if_neg h]
theorem Zbj {H:Hp} {a:Addr} {o u:HO}:upd (upd H a o) a u=upd H a u:=by
 funext b;unfold upd;split<;>rfl
theorem Zcm {H:Hp} {a b:Addr} {o u:HO} (h:H a=some o) (h':H b=some u) (d:o≠u):a≠b:=by
 intro e;subst e;rw [h] at h';exact d (Option.some.inj h')
theorem Zq {H:Hp} {a b:Addr} {o:HO} (h:H a=some o) (h':H b=none):a≠b:=by
 intro e;subst e;rw [h] at h';cases h'
section
variable (P:Program) (w:World)
def zD (H:Hp) (h:Heap) (a:Addr):HO->Prop
 | .lst xs=>xs.length<=sizeLine/\∃(its:List Value) (n:Nat),ZD xs its/\h.get? a=some {cls:=.type "list",data:=.seq its.toArray n}
 | .tup xs=>xs.length<=sizeLine/\∃its:List Value,ZD xs its/\IsTup h a its.toArray
 | .dK kvs=>kvs.length<=sizeLine/\(a==sysModules)=false/\∃vs,KV kvs vs/\h.DictOf (z4 P w) a vs
 | .dT _=>False
 | .set S n=>h.SetOf (intKind P w) a S n
 | .ins C dx fs=>H dx=some (.own a)/\fs.length<=1000/\dx≠a/\h.get? a=some (instObj C dx)/\
  ∃mA,h.Ns1 dx mA/\(∀f,Zcj (fs.lookup f) (mA f))/\PySem.Within mA (fs.map (·.1))
 | .own _=>∃o,h.get? a=some o
 | .xd fs=>∃mA,h.Ns1 a mA/\∀f,Zcj (fs.lookup f) (mA f)
 | .rng lo hi=>∃t u v,h.get? a=some {cls:=.type "range",data:=.fields #[.int lo t,.int hi u,.int 1 v]}
 | .frz o u=>h.get? a=some o/\zD H h a u
 | .tbl ps=>h.get? a=some {cls:=.none,data:=.fields ps}
 | .met f x=>h.get? a=some (methodObj (.ref f) (.ref x))
 | .ext φ=>φ h/\(∃o,h.get? a=some o)/\∀h1 h2:Heap,φ h1->(∀o,h1.get? a=some o->h2.get? a=some o)->φ h2
def HOk (H:Hp) (h:Heap):Prop:=∀a o,H a=some o->zD P w H h a o
end
section
variable {P:Program} {w:World} {H H':Hp} {h h':Heap} {a:Addr} {o:HO}
theorem zD.lt (x:zD P w H h a o):a<h.objs.size:=by
 cases o with
 |lst xs=>obtain ⟨_,_,_,_,e⟩:=x;exact Heap.lt_size e
 |tup xs=>obtain ⟨_,_,_,p⟩:=x;exact p.lt
 |dK kvs=>obtain ⟨_,_,_,_,o,_,_,e,_⟩:=x;exact Heap.lt_size e
 |dT kvs=>exact False.elim x
 |set S n=>obtain ⟨o,_,_,_,e,_⟩:=x;exact Heap.lt_size e
 |ins C dx fs=>obtain ⟨_,_,_,e,_⟩:=x;exact Heap.lt_size e
 |own y=>obtain ⟨_,e⟩:=x;exact Heap.lt_size e
 |xd fs=>obtain ⟨_,⟨_,_,_,e,_⟩,_⟩:=x;exact Heap.lt_size e
 |rng lo hi=>obtain ⟨_,_,_,e⟩:=x;exact Heap.lt_size e
 |frz ob u=>obtain ⟨e,_⟩:=x;exact Heap.lt_size e
 |tbl ps=>exact Heap.lt_size (show h.get? a=some _ from x)
 |met f y=>exact Heap.lt_size (show h.get? a=some _ from x)
 |ext φ=>obtain ⟨_,⟨_,e⟩,_⟩:=x;exact Heap.lt_size e
theorem zD.stay (x:zD P w H h a o) (k:∀b u,(b=a\/H b=some (.own a))->h.get? b=some u->h'.get? b=some u)
 (ho:∀b,H b=some (.own a)->H' b=some (.own a)) (ht:∀b xs,H b=some (.tup xs)->H' b=some (.tup xs)):zD P w H' h' a o:=by
 induction o with
 |lst xs=>obtain ⟨z,its,n,r,e⟩:=x;exact ⟨z,its,n,r,k _ _ (.inl rfl) e⟩
 |tup xs=>obtain ⟨z,its,r,ob,e,c⟩:=x;exact ⟨z,its,r,ob,k _ _ (.inl rfl) e,c⟩
 |dK kvs=>obtain ⟨z,y,vs,r,ob,es,ep,e,c⟩:=x;exact ⟨z,y,vs,r,ob,es,ep,k _ _ (.inl rfl) e,c⟩
 |dT kvs=>exact False.elim x
 |set S n=>obtain ⟨ob,es,ep,t,e,c⟩:=x;exact ⟨ob,es,ep,t,k _ _ (.inl rfl) e,c⟩
 |ins C dx fs=>
  obtain ⟨d,z,ne,e,mA,⟨od,es,ep,e2,c⟩,r⟩:=x
  exact ⟨ho _ d,z,ne,k _ _ (.inl rfl) e,mA,⟨od,es,ep,k _ _ (.inr d) e2,c⟩,r⟩
 |own y=>obtain ⟨ob,e⟩:=x;exact ⟨ob,k _ _ (.inl rfl) e⟩
 |xd fs=>obtain ⟨mA,⟨od,es,ep,e,c⟩,r⟩:=x;exact ⟨mA,⟨od,es,ep,k _ _ (.inl rfl) e,c⟩,r⟩
 |rng lo hi=>obtain ⟨t,u,v,e⟩:=x;exact ⟨t,u,v,k _ _ (.inl rfl) e⟩
 |frz ob u ih=>obtain ⟨e,q⟩:=x;exact ⟨k _ _ (.inl rfl) e,ih q⟩
 |tbl ps=>
  have e:h.get? a=some {cls:=.none,data:=.fields ps}:=x
  show h'.get? a=some {cls:=.none,data:=.fields ps}
  exact k a _ (.inl rfl) e
 |met f y=>
  have e:h.get? a=some (methodObj (.ref f) (.ref y)):=x
  show h'.get? a=some (methodObj (.ref f) (.ref y))
  exact k a _ (.inl rfl) e
 |ext φ=>obtain ⟨p,⟨o,e⟩,st⟩:=x;exact ⟨st _ _ p fun o q=>k _ _ (.inl rfl) q,⟨o,k _ _ (.inl rfl) e⟩,st⟩
theorem HOk.lt (x:HOk P w H h) (e:H a=some o):a<h.objs.size:=(x a o e).lt
theorem HOk.fresh (x:HOk P w H h) (e:h.objs.size<=a):H a=none:=by
 cases q:H a with
 |none=>rfl
 |some u=>exact absurd (Nat.lt_of_lt_of_le (x.lt q) e) (Nat.lt_irrefl _)
theorem HOk.kept (x:HOk P w H h) (k:∀b u,h.get? b=some u->h'.get? b=some u):HOk P w H h':=fun a o e=>
 (x a o e).stay (fun b u _ q=>k b u q) (fun _ q=>q) fun _ _ q=>q
theorem HOk.laid (x:HOk P w H h) (k:∀b u,h.get? b=some u->h'.get? b=some u) (hp:h.objs.size<=a) (new:zD P w (upd H a o) h' a o):HOk P w (upd H a o) h':=fun b u e=>by
 have hn:=x.fresh hp
 by_cases hb:b=a
 ·subst hb;rw [Zj] at e;cases e;exact new
 ·rw [Zn hb] at e
  exact (x b u e).stay (fun c v _ q=>k c v q) (fun c q=>by rw [Zn (Zq q hn)];exact q) fun c xs q=>by rw [Zn (Zq q hn)];exact q
end
def Rd (H:Hp) (a:Addr) (u:HO):Prop:=H a=some u\/∃o,H a=some (.frz o u)
theorem Rd.ok {P:Program} {w:World} {H:Hp} {h:Heap} {a:Addr} {u:HO} (r:Rd H a u) (x:HOk P w H h):zD P w H h a u:=by
 rcases r with r|⟨o,r⟩
 ·exact x a u r
 ·obtain ⟨_,q⟩:=x a _ r
  exact q
def Mut:Option HO->Prop
 |some (.lst _)=>True
 |some (.dK _)=>True
 |some (.dT _)=>True
 |some (.set _ _)=>True
 |some (.ins _ _ _)=>True
 |some (.ext _)=>True
 |_=>False
section
variable {P:Program} {w:World} {H:Hp} {h h':Heap} {x e:Addr} {o':HO}
theorem HOk.write (ok:HOk P w H h) (mu:Mut (H x)) (he:e=x\/H e=some (.own x)) (k:∀b u,b≠e->h.get? b=some u->h'.get? b=some u) (heo:∃u,h'.get? e=some u)
 (new:zD P w (upd H x o') h' x o'):HOk P w (upd H x o') h':=fun b u q=>by
 have nown:∀c y,H c=some (.own y)->c≠x:=fun c y r z=>by subst z;rw [r] at mu;exact mu
 have ntup:∀c xs,H c=some (.tup xs)->c≠x:=fun c xs r z=>by subst z;rw [r] at mu;exact mu
 by_cases hb:b=x
 ·subst hb;rw [Zj] at q;cases q;exact new
 ·rw [Zn hb] at q
  by_cases hbe:b=e
  ·have q':H b=some (.own x):=by
    rcases he with z|z
    ·exact absurd (hbe.trans z) hb
    ·rw [hbe];exact z
   rw [q] at q';cases q'
   obtain ⟨v,hv⟩:=heo
   exact ⟨v,by rw [hbe];exact hv⟩
  ·refine (ok b u q).stay (fun c v hc r=>k c v ?_ r) (fun c r=>by rw [Zn (nown c b r)];exact r) fun c xs r=>by rw [Zn (ntup c xs r)];exact r
   rcases hc with rfl|hc
   ·exact hbe
   ·rintro rfl
    rcases he with z|z
    ·exact nown c b hc z
    ·rw [hc] at z;cases z;exact hb rfl
end
structure Un (fs ex:List Addr) (H H':Hp) (h h':Heap):Prop where
 keep:∀b o,h.get? b=some o->H b=none->b∉fs->b∉ex->h'.get? b=some o
 slot:∀b o,h.get? b=some o->H b=none->b∈fs->b∉ex->∃sl,h'.get? b=some {o with slots:=sl}
 free:∀b o,h.get? b=some o->H b=none->b∉ex->H' b=none
 there:∀b o,h.get? b=some o->b∉ex->∃o',h'.get? b=some o'
 tups:∀b xs,H b=some (.tup xs)->H' b=some (.tup xs)
 frzs:∀b o u,H b=some (.frz o u)->H' b=some (.frz o u)
 tbls:∀b ps,H b=some (.tbl ps)->∃more,H' b=some (.tbl (ps++more))
section
variable {fs fs' ex ex':List Addr} {H H1 H2:Hp} {h h1 h2 h':Heap} {a x e:Addr} {o:HO}
theorem Un.any (u:Un fs ex H H1 h h1) {b:Addr} {ob:Obj} (q:h.get? b=some ob) (n:H b=none) (hx:b∉ex):∃sl,h1.get? b=some {ob with slots:=sl}:=by
 by_cases hb:b∈fs
 ·exact u.slot b ob q n hb hx
 ·exact ⟨ob.slots,u.keep b ob q n hb hx⟩
theorem Un.kept (k:∀b u,h.get? b=some u->h'.get? b=some u):Un fs ex H H h h':=
 ⟨fun b ob q _ _ _=>k b ob q,fun b ob q _ _ _=>⟨ob.slots,k b ob q⟩,fun _ _ _ n _=>n,fun b ob q _=>⟨ob,k b ob q⟩,fun _ _ q=>q,fun _ _ _ q=>q,fun _ ps q=>⟨#[],by rw [q];simp⟩⟩
theorem Un.refl:Un fs ex H H h h:=Un.kept fun _ _ q=>q
theorem Un.laid (k:∀b u,h.get? b=some u->h'.get? b=some u) (hp:h.objs.size<=a) (hn:H a=none):Un fs ex H (upd H a o) h h' where
 keep:=fun b u q _ _ _=>k b u q
 slot:=fun b u q _ _ _=>⟨u.slots,k b u q⟩
 free:=fun b u q n _=>by rw [Zn (Nat.ne_of_lt (Nat.lt_of_lt_of_le (Heap.lt_size q) hp))];exact n
 there:=fun b u q _=>⟨u,k b u q⟩
 tups:=fun b xs q=>by rw [Zn (Zq q hn)];exact q
 frzs:=fun b u xs q=>by rw [Zn (Zq q hn)];exact q
 tbls:=fun b ps q=>⟨#[],by rw [Zn (Zq q hn),q];simp⟩
theorem Un.write (mu:Mut (H x)) (he:e=x\/H e=some (.own x)) (k:∀b u,b≠e->h.get? b=some u->h'.get? b=some u) (heo:∃u,h'.get? e=some u):Un fs ex H (upd H x o) h h':=by
 have hx:∀b,H b=none->b≠x:=fun b n z=>by subst z;rw [n] at mu;exact mu
 have hb:∀b,H b=none->b≠e:=fun b n z=>by
  subst z
  rcases he with r|r
  ·exact hx b n r
  ·rw [n] at r;cases r
 have hm:∀b u,H b=some u->¬Mut (some u)->b≠x:=fun b u q nm z=>by subst z;rw [q] at mu;exact nm mu
 refine ⟨fun b u q n _ _=>k b u (hb b n) q,fun b u q n _ _=>⟨u.slots,k b u (hb b n) q⟩,fun b u q n _=>by rw [Zn (hx b n)];exact n,fun b u q _=>?_,
  fun b xs q=>by rw [Zn (hm b _ q fun z=>z)];exact q,fun b u xs q=>by rw [Zn (hm b _ q fun z=>z)];exact q,fun b ps q=>⟨#[],by rw [Zn (hm b _ q fun z=>z),q];simp⟩⟩
 by_cases hbe:b=e
 ·subst hbe;exact heo
 ·exact ⟨u,k b u hbe q⟩
end
def trk (h:Heap) (H:Hp):List Addr:=(List.range h.objs.size).filter fun a=>(H a).isSome
def Zfq (h:Heap) (H:Hp):Heap:=hideAll h (trk h H)
theorem Zlr (h:Heap) (H:Hp):(Zfq h H).objs.size=h.objs.size:=PySem.W.hideAll_size _ _
theorem Zmz {h:Heap} {H:Hp} {b:Addr} {o:Obj} (e:h.get? b=some o) (n:H b=none):(Zfq h H).get? b=some o:=
 hideAll_get _ e fun hm=>by
  have q:(H b).isSome=true:=(List.mem_filter.mp hm).2
  rw [n] at q;simp at q
theorem ZpR {h:Heap} {H:Hp} {b:Addr} {o:Obj} (e:(Zfq h H).get? b=some o):h.get? b=some o/\H b=none:=by
 have e':h.get? b=some o:=of_hideAll (trk h H) e
 refine ⟨e',?_⟩
 cases q:H b with
 |none=>rfl
 |some x=>
  have hm:b∈trk h H:=List.mem_filter.mpr ⟨List.mem_range.mpr (Heap.lt_size e'),by simp [q]⟩
  have z:(Zfq h H).get? b=none:=PySem.W.hideAll_none (trk h H) hm
  rw [z] at e;cases e
def ZpY (g h:Heap) (L:Addr):List (Addr×Obj):=(List.range h.objs.size).filterMap fun a=>if a=L\/(g.get? a).isSome=true then none else (h.get? a).map fun o=>(a,o)
def qP (g h:Heap) (L d:Addr):List (Addr×Obj):=(ZpY g h L).filter fun p=>decide (p.1≠d)
structure Mod (K:PySem.W.Frag) (mg:Str->Option Value) (base:Heap):Prop where
 kin:K.In base
 glob:base.Ns mainGlobals mg
 blt:∃mb,base.Ns builtinsNs mb/\∀x:Str,x≠"__name__"->mb x=bootBuiltins x
 nolimit:base.NoLimit
structure Cx where
 prog:Program
 w:World
 K:PySem.W.Frag
 mg:Str->Option Value
 base:Heap
 A:Around
 N:List Str
 s₀:Shared
 H₀:Hp
 env:Env
 outer:List Env
 stack:List Env
 ex:List Addr
 fn:Str->Bool
 calm:Bool
 pn:List (Addr×Obj)
 xe:Value->Shared->Prop
def frs (l:List Env):List Addr:=l.filterMap (·.frame)
abbrev Cx.fs (X:Cx):List Addr:=frs X.outer
def Vis (sc:Scope) (x:Str):Prop:=sc.names.lookup x=some .local\/sc.names.lookup x=some .cell\/sc.names.lookup x=some .free
def Loc (sc:Scope) (x:Str):Prop:=sc.names.lookup x=some .local\/sc.names.lookup x=some .cell
def ZAM (env:Env) (h:Heap) (m:Str->Option Value) (x:Str) (u:Value):Prop:=
 (env.kindOf x=some .local/\m x=some u)\/((env.kindOf x=some .cell\/env.kindOf x=some .free)/\∃c,env.cells.lookup x=some c/\h.IsCell c (some u))
structure Cx.Ok (X:Cx):Prop where
 mod:Mod X.K X.mg X.base
 kind:X.env.scope.kind=.function
 glob:X.env.globals=mainGlobals
 blt:X.env.builtins=builtinsNs
 above:X.s₀.heap.objs.size<=X.env.locals
 inj:∀x y c,X.env.cells.lookup x=some c->X.env.cells.lookup y=some c->x=y
 has:∀x,(X.env.kindOf x=some .cell\/X.env.kindOf x=some .free)->∃c,X.env.cells.lookup x=some c
 cab:∀x c,X.fn x=true->X.env.cells.lookup x=some c->X.s₀.heap.objs.size<=c
 hd:X.calm=true->X.A.handled=none
 frames:X.A.frames=some X.stack
 stk:X.stack=X.outer\/(X.stack=X.env::X.outer/\X.env.frame=some X.env.locals)
 exf:∀b∈X.ex,b≠X.env.locals/\∀x c,X.env.cells.lookup x=some c->c≠b
 bs:∀b o,X.base.get? b=some o->X.s₀.heap.get? b=some o/\X.H₀ b=none
 bsz:X.base.objs.size<=X.s₀.heap.objs.size
 noex:∀b o,X.base.get? b=some o->b∉X.ex
 exfs:∀b∈X.ex,b∉X.fs
 funs:X.s₀.heap.FunFrames X.base X.outer
 frf:∀b∈X.fs,X.H₀ b=none
structure Inv (X:Cx) (Za:List (Addr×Obj)) (σ:List (Option V)) (H:Hp) (s:Shared):Prop where
 ok:X.Ok
 os:s.os=X.s₀.os
 bare:AllBare s.gens
 base:Un X.fs X.ex X.H₀ H X.s₀.heap s.heap
 loc:∃m,s.heap.Ns X.env.locals m/\∀(i:Nat) (x:Str) (v:V),X.N[i]?=some x->σ[i]?=some (some v)->Vis X.env.scope x->∃u,Z2 v u/\ZAM X.env s.heap m x u
 cell:∀x c,X.env.cells.lookup x=some c->∃v,s.heap.IsCell c v
 free:H X.env.locals=none
 freeC:∀x c,X.env.cells.lookup x=some c->H c=none
 pin:∀p∈X.pn++Za,s.heap.get? p.1=some p.2/\H p.1=none/\p.1≠X.env.locals/\p.1∉X.fs/\∀v,p.2.data≠ .cell v
 hok:HOk X.prog X.w H s.heap
 len:σ.length=X.N.length
section
variable {X:Cx} {Za:List (Addr×Obj)} {σ:List (Option V)} {H H':Hp} {s:Shared} {h':Heap}
theorem Cx.Ok.nofr (ok:X.Ok) {b:Addr} {o:Obj} (e:X.base.get? b=some o):b∉X.fs:=fun hb=>by
 have:=(ok.funs.mem hb).1
 rw [e] at this;cases this
theorem Inv.bs (I:Inv X Za σ H s):∀b o,X.base.get? b=some o->s.heap.get? b=some o/\H b=none:=fun b o e=>
 ⟨I.base.keep b o (I.ok.bs b o e).1 (I.ok.bs b o e).2 (I.ok.nofr e) (I.ok.noex b o e),I.base.free b o (I.ok.bs b o e).1 (I.ok.bs b o e).2 (I.ok.noex b o e)⟩
theorem Inv.bk (I:Inv X Za σ H s):∀b o,X.base.get? b=some o->s.heap.get? b=some o:=fun b o e=>(I.bs b o e).1
theorem Inv.mod (I:Inv X Za σ H s):Mod X.K X.mg X.base:=I.ok.mod
theorem Inv.kIn (I:Inv X Za σ H s):X.K.In s.heap:=I.ok.mod.kin.keeps I.bk
theorem Inv.nolimit (I:Inv X Za σ H s):s.heap.NoLimit:=I.ok.mod.nolimit.keeps I.bk
theorem Inv.lt (I:Inv X Za σ H s):X.env.locals<s.heap.objs.size:=let ⟨_,hn,_⟩:=I.loc;hn.lt
theorem Inv.sz (I:Inv X Za σ H s):X.s₀.heap.objs.size<=s.heap.objs.size:=Nat.le_trans I.ok.above (Nat.le_of_lt I.lt)
theorem Inv.nofs (I:Inv X Za σ H s) {a:Addr} (h:s.heap.objs.size<=a):a∉X.fs:=fun hb=>by
 obtain ⟨_,o,ho,_⟩:=I.ok.funs.mem hb
 exact absurd (Nat.lt_of_lt_of_le (Heap.lt_size ho) (Nat.le_trans I.sz h)) (Nat.lt_irrefl _)
theorem Inv.cne (I:Inv X Za σ H s):∀x c,X.env.cells.lookup x=some c->c≠X.env.locals:=fun x c e z=>by
 obtain ⟨v,o,ho,hd⟩:=I.cell x c e
 obtain ⟨m,⟨o',es,ep,ho',hd',_⟩,_⟩:=I.loc
 rw [z,ho'] at ho;cases ho;rw [hd'] at hd;cases hd
theorem Inv.funs (I:Inv X Za σ H s):s.heap.FunFrames X.base X.outer:=by
 have all:∀(l:List Env),(∀b∈frs l,b∈X.fs)->X.s₀.heap.FunFrames X.base l->s.heap.FunFrames X.base l:=by
  intro l
  induction l with
  |nil=>intro _ _;trivial
  |cons env r ih=>
   intro hs hl
   obtain ⟨hk,⟨L,o,hf,hn,ho,hd⟩,hr⟩:=hl
   have hL:L∈X.fs:=hs L (by unfold frs;rw [List.filterMap_cons,hf];exact mem_cons_self)
   obtain ⟨sl,e⟩:=I.base.slot L o ho (I.ok.frf L hL) hL fun z=>I.ok.exfs L z hL
   exact ⟨hk,⟨L,_,hf,hn,e,hd⟩,ih (fun b hb=>hs b (by unfold frs;rw [List.filterMap_cons,hf];exact mem_cons_of_mem _ hb)) hr⟩
 exact all X.outer (fun _ hb=>hb) I.ok.funs
theorem Inv.stack (I:Inv X Za σ H s):s.heap.FunFrames X.base X.stack:=by
 rcases I.ok.stk with e|⟨e,hf⟩
 ·rw [e];exact I.funs
 ·rw [e]
  obtain ⟨m,hn,_⟩:=I.loc
  refine .cons (by rw [I.ok.kind];decide) hf hn ?_ I.funs
  exact Heap.get?_none_of_le (Nat.le_trans I.ok.bsz I.ok.above)
theorem Inv.stkSub (I:Inv X Za σ H s):∀b∈frs X.stack,b∈X.env.locals::X.fs:=fun b hb=>by
 rcases I.ok.stk with e|⟨e,hf⟩
 ·rw [e] at hb;exact mem_cons_of_mem _ hb
 ·rw [e] at hb
  unfold frs at hb
  rw [List.filterMap_cons,hf] at hb
  exact hb
theorem Inv.stkFree (I:Inv X Za σ H s):∀b∈frs X.stack,H b=none:=fun b hb=>by
 rcases mem_cons.mp (I.stkSub b hb) with e|hb
 ·rw [e];exact I.free
 ·obtain ⟨_,o,ho,_⟩:=I.ok.funs.mem hb
  exact I.base.free b o ho (I.ok.frf b hb) fun z=>I.ok.exfs b z hb
theorem Inv.step {g':Array GenState} {t':Nat} {d':Drawn} {ch:List Addr} (I:Inv X Za σ H s)
 (hch:∀b∈ch,(b∈X.ex\/X.s₀.heap.objs.size<=b)/\b≠X.env.locals/\(∀x c,X.env.cells.lookup x=some c->c≠b)/\∀p∈X.pn++Za,p.1≠b)
 (keep:∀b o,b≠X.env.locals->b∉X.fs->b∉ch->s.heap.get? b=some o->H b=none->h'.get? b=some o)
 (slot:∀b o,b≠X.env.locals->b∈X.fs->b∉ch->s.heap.get? b=some o->H b=none->∃sl,h'.get? b=some {o with slots:=sl}) (free:∀b o,b∉ch->s.heap.get? b=some o->H b=none->H' b=none)
 (there:∀b o,b∉ch->s.heap.get? b=some o->∃o',h'.get? b=some o')
 (tups:∀b xs,H b=some (.tup xs)->H' b=some (.tup xs)) (frzs:∀b o u,H b=some (.frz o u)->H' b=some (.frz o u)) (tbls:∀b ps,H b=some (.tbl ps)->∃more,H' b=some (.tbl (ps++more)))
 (ns:∀m,s.heap.Ns X.env.locals m->h'.Ns X.env.locals m) (hok:HOk X.prog X.w H' h') (hg:AllBare g'):
 Inv X Za σ H' {s with heap:=h',gens:=g',drawn:=d',toks:=t'}:=by
 have neL:∀b o,X.s₀.heap.get? b=some o->b≠X.env.locals:=fun b o e=>Nat.ne_of_lt (Nat.lt_of_lt_of_le (Heap.lt_size e) I.ok.above)
 have neC:∀b o,X.s₀.heap.get? b=some o->b∉X.ex->b∉ch:=fun b o e hx hb=>by
  rcases (hch b hb).1 with z|z
  ·exact hx z
  ·exact absurd (Nat.lt_of_lt_of_le (Heap.lt_size e) z) (Nat.lt_irrefl _)
 have cellK:∀x c,X.env.cells.lookup x=some c->∀v,s.heap.IsCell c v->h'.IsCell c v:=fun x c e v ⟨o,ho,hd⟩=>by
  have nch:c∉ch:=fun z=>(hch c z).2.2.1 x c e rfl
  by_cases hc:c∈X.fs
  ·obtain ⟨sl,q⟩:=slot c o (I.cne x c e) hc nch ho (I.freeC x c e)
   exact ⟨_,q,hd⟩
  ·exact ⟨o,keep c o (I.cne x c e) hc nch ho (I.freeC x c e),hd⟩
 refine ⟨I.ok,I.os,hg,⟨fun b o e n hb hx=>?_,fun b o e n hb hx=>?_,fun b o e n hx=>?_,fun b o e hx=>?_,fun b xs e=>tups b xs (I.base.tups b xs e),fun b o xs e=>frzs b o xs (I.base.frzs b o xs e),fun b ps e=>?_⟩,?_,fun x c e=>?_,?_,fun x c e=>?_,fun p hp=>?_,hok,I.len⟩
 ·exact keep b o (neL b o e) hb (neC b o e hx) (I.base.keep b o e n hb hx) (I.base.free b o e n hx)
 ·obtain ⟨sl,e1⟩:=I.base.slot b o e n hb hx
  obtain ⟨sl',e2⟩:=slot b _ (neL b o e) hb (neC b o e hx) e1 (I.base.free b o e n hx)
  exact ⟨sl',e2⟩
 ·obtain ⟨o',e1⟩:=I.base.there b o e hx
  exact free b o' (neC b o e hx) e1 (I.base.free b o e n hx)
 ·obtain ⟨o',e1⟩:=I.base.there b o e hx
  exact there b o' (neC b o e hx) e1
 ·obtain ⟨m1,e1⟩:=I.base.tbls b ps e
  obtain ⟨m2,e2⟩:=tbls b _ e1
  exact ⟨m1++m2,by rw [e2,Array.append_assoc]⟩
 ·obtain ⟨m,hn,hl⟩:=I.loc
  refine ⟨m,ns m hn,fun i x v e1 e2 e3=>?_⟩
  obtain ⟨u,r,l⟩:=hl i x v e1 e2 e3
  refine ⟨u,r,?_⟩
  rcases l with l|⟨k,c,e,z⟩
  ·exact .inl l
  ·exact .inr ⟨k,c,e,cellK x c e _ z⟩
 ·obtain ⟨v,z⟩:=I.cell x c e
  exact ⟨v,cellK x c e v z⟩
 ·obtain ⟨m,⟨o,_,_,ho,_⟩,_⟩:=I.loc
  exact free _ o (fun z=>(hch _ z).2.1 rfl) ho I.free
 ·obtain ⟨v,o,ho,hd⟩:=I.cell x c e
  exact free c o (fun z=>(hch c z).2.2.1 x c e rfl) ho (I.freeC x c e)
 ·obtain ⟨e,n,ne,nf,d⟩:=I.pin p hp
  have nch:p.1∉ch:=fun z=>(hch p.1 z).2.2.2 p hp rfl
  exact ⟨keep p.1 p.2 ne nf nch e n,free p.1 p.2 nch e n,ne,nf,d⟩
theorem Inv.un {t':Nat} (I:Inv X Za σ H s) (u:Un X.fs [] H H' s.heap h') (hok:HOk X.prog X.w H' h'):Inv X Za σ H' {s with heap:=h',toks:=t'}:=by
 obtain ⟨m,⟨o,es,ep,ho,r⟩,_⟩:=id I.loc
 obtain ⟨sl,hL⟩:=u.any ho I.free (by simp)
 exact I.step (g':=s.gens) (d':=s.drawn) (ch:=[]) (fun _ z=>nomatch z) (fun b o _ hb _ e n=>u.keep b o e n hb (by simp)) (fun b o _ hb _ e n=>u.slot b o e n hb (by simp)) (fun b o _ e n=>u.free b o e n (by simp)) (fun b o _ e=>u.there b o e (by simp)) u.tups u.frzs u.tbls (fun m' hm=>by
  obtain ⟨o',es',ep',ho',r'⟩:=hm
  rw [ho] at ho';cases ho'
  exact ⟨_,es',ep',hL,r'⟩) hok I.bare
theorem Inv.call {g':Array GenState} {t':Nat} {d':Drawn} {ch:List Addr} (I:Inv X Za σ H s) (u:Un (frs X.stack) ch H H' s.heap h') (hok:HOk X.prog X.w H' h') (hg:AllBare g')
 (hch:∀b∈ch,(b∈X.ex\/X.s₀.heap.objs.size<=b)/\b≠X.env.locals/\(∀x c,X.env.cells.lookup x=some c->c≠b)/\∀p∈X.pn++Za,p.1≠b):
 Inv X Za σ H' {s with heap:=h',gens:=g',drawn:=d',toks:=t'}:=by
 obtain ⟨m,⟨o,es,ep,ho,r⟩,_⟩:=id I.loc
 obtain ⟨sl,hL⟩:=u.any ho I.free fun z=>(hch _ z).2.1 rfl
 exact I.step (ch:=ch) hch (fun b o hL hb hc e n=>u.keep b o e n (fun z=>(mem_cons.mp (I.stkSub b z)).elim hL hb) hc) (fun b o _ _ hc e n=>u.any e n hc) (fun b o hc e n=>u.free b o e n hc) (fun b o hc e=>u.there b o e hc) u.tups u.frzs u.tbls (fun m' hm=>by
  obtain ⟨o',es',ep',ho',r'⟩:=hm
  rw [ho] at ho';cases ho'
  exact ⟨_,es',ep',hL,r'⟩) hok hg
theorem Inv.turned {t':Nat} {it:Addr} (I:Inv X Za σ H s) (k:∀b o,b≠it->s.heap.get? b=some o->h'.get? b=some o) (hn:H it=none) (hL:it≠X.env.locals)
 (h1:it∈X.ex\/X.s₀.heap.objs.size<=it) (h2:∀x c,X.env.cells.lookup x=some c->c≠it) (h3:∀p∈X.pn++Za,p.1≠it):Inv X Za σ H {s with heap:=h',toks:=t'}:=by
 have nit:∀b u,H b=some u->b≠it:=fun b u e z=>by rw [z,hn] at e;cases e
 refine I.step (g':=s.gens) (d':=s.drawn) (ch:=[it]) (fun b hb=>?_) (fun b o _ _ hc e _=>k b o (fun z=>hc (by simp [z])) e) (fun b o _ _ hc e _=>⟨o.slots,k b o (fun z=>hc (by simp [z])) e⟩) (fun _ _ _ _ n=>n)
  (fun b o hc e=>⟨o,k b o (fun z=>hc (by simp [z])) e⟩) (fun _ _ e=>e) (fun _ _ _ e=>e) (fun b ps e=>⟨#[],by rw [e];simp⟩) (fun m hm=>?_) (fun b u e=>?_) I.bare
 ·have e:b=it:=by simpa using hb
  subst e
  exact ⟨h1,hL,h2,h3⟩
 ·obtain ⟨o,es,ep,ho,r⟩:=hm
  exact ⟨o,es,ep,k _ o (Ne.symm hL) ho,r⟩
 ·refine (I.hok b u e).stay (fun c v hc q=>k c v ?_ q) (fun _ q=>q) fun _ _ q=>q
  rcases hc with z|z
  ·rw [z];exact nit b u e
  ·exact nit c _ z
theorem Inv.tok (I:Inv X Za σ H s) (t:Nat):Inv X Za σ H {s with toks:=t}:=I.un (h':=s.heap) (t':=t) Un.refl I.hok
theorem Inv.kept {t':Nat} (I:Inv X Za σ H s) (k:∀b u,s.heap.get? b=some u->h'.get? b=some u):Inv X Za σ H {s with heap:=h',toks:=t'}:=I.un (Un.kept k) (I.hok.kept k)
theorem Inv.laid {a:Addr} {o:HO} {t':Nat} (I:Inv X Za σ H s) (k:∀b u,s.heap.get? b=some u->h'.get? b=some u) (hp:s.heap.objs.size<=a) (new:zD X.prog X.w (upd H a o) h' a o):
 Inv X Za σ (upd H a o) {s with heap:=h',toks:=t'}:=I.un (Un.laid k hp (I.hok.fresh hp)) (I.hok.laid k hp new)
theorem Inv.write {x e:Addr} {o:HO} {t':Nat} (I:Inv X Za σ H s) (mu:Mut (H x)) (he:e=x\/H e=some (.own x)) (k:∀b u,b≠e->s.heap.get? b=some u->h'.get? b=some u) (heo:∃u,h'.get? e=some u)
 (new:zD X.prog X.w (upd H x o) h' x o):Inv X Za σ (upd H x o) {s with heap:=h',toks:=t'}:=I.un (Un.write mu he k heo) (I.hok.write mu he k heo new)
theorem Inv.weak {σ':List (Option V)} (I:Inv X Za σ H s) (hl:σ'.length=σ.length) (w:∀(i:Nat) v,σ'[i]?=some (some v)->σ[i]?=some (some v)):Inv X Za σ' H s:=
 ⟨I.ok,I.os,I.bare,I.base,let ⟨m,hn,hl'⟩:=I.loc;⟨m,hn,fun i x v e1 e2 e3=>hl' i x v e1 (w i v e2) e3⟩,I.cell,I.free,I.freeC,I.pin,I.hok,hl.trans I.len⟩
theorem Inv.pins_of {pins':List (Addr×Obj)} (I:Inv X Za σ H s) (h:∀p∈pins',s.heap.get? p.1=some p.2/\H p.1=none/\p.1≠X.env.locals/\p.1∉X.fs/\∀v,p.2.data≠ .cell v):Inv X pins' σ H s:=
 ⟨I.ok,I.os,I.bare,I.base,I.loc,I.cell,I.free,I.freeC,fun p hp=>(mem_append.mp hp).elim (fun z=>I.pin p (mem_append_left _ z)) (h p),I.hok,I.len⟩
theorem Zes {N:List Str} (hN:N.Nodup) {i j:Nat} {x:Str} (a:N[i]?=some x) (b:N[j]?=some x):i=j:=by
 obtain ⟨h1,e1⟩:=List.getElem?_eq_some_iff.mp a
 obtain ⟨h2,e2⟩:=List.getElem?_eq_some_iff.mp b
 exact (List.getElem_inj hN).mp (e1.trans e2.symm)
theorem ZkR {M:Model} {A:Around} {E:Value->Shared->Prop} {i:Nat} {x:Str} {v:V} {u:Value} {Q:Unit->Shared->Prop} (I:Inv X Za σ H s) (hN:X.N.Nodup) (hi:X.N[i]?=some x) (hx:Loc X.env.scope x) (r:Z2 v u)
 (h:∀s',Inv X Za (σ.set i (some v)) H s'->(∃a,Heap.SameBut a s.heap s'.heap/\(a=X.env.locals\/X.env.cells.lookup x=some a))->Q () s') (hf:X.fn x=true\/X.env.scope.names.lookup x=some .local:=by first|exact .inl rfl|exact .inr rfl|assumption):wpAny M A (storeName X.env x u) Q E s:=by
 obtain ⟨m,hn,hl⟩:=id I.loc
 have hcls:(X.env.scope.kind==.class || (X.env.scope.kind==.module && X.env.locals !=X.env.globals))=false:=by rw [I.ok.kind];rfl
 have hiσ:i<σ.length:=by rw [I.len];exact (List.getElem?_eq_some_iff.mp hi).1
 have cne:=I.cne
 have tracked:∀{a:Addr} {h':Heap},(∃o,s.heap.get? a=some o/\H a=none)->Heap.SameBut a s.heap h'->HOk X.prog X.w H h':=fun {a h'} ha hs b ob e=>by
  obtain ⟨_,_,hfree⟩:=ha
  refine (I.hok b ob e).stay (fun c w' hc q=>(hs.2 c ?_).trans q) (fun _ q=>q) fun _ _ q=>q
  rintro rfl
  rcases hc with rfl|hc
  ·rw [hfree] at e;cases e
  ·rw [hfree] at hc;cases hc
 rcases hx with hk|hk
 ·refine wpAny_storeName_local hk hn (fun h' hn' hs=>?_) hcls
  obtain ⟨oL,_,_,hoL,_⟩:=id hn
  refine h _ ⟨I.ok,I.os,I.bare,⟨fun b o e n hb hx=>?_,fun b o e n hb hx=>?_,I.base.free,fun b o e hx=>?_,I.base.tups,I.base.frzs,I.base.tbls⟩,⟨_,hn',fun j y v' e1 e2 e3=>?_⟩,fun y c e=>?_,I.free,I.freeC,fun p hp=>?_,tracked ⟨oL,hoL,I.free⟩ hs,by simpa using I.len⟩ ⟨_,hs,.inl rfl⟩
  ·exact (hs.2 b (Nat.ne_of_lt (Nat.lt_of_lt_of_le (Heap.lt_size e) I.ok.above))).trans (I.base.keep b o e n hb hx)
  ·obtain ⟨sl,e1⟩:=I.base.slot b o e n hb hx
   exact ⟨sl,(hs.2 b (Nat.ne_of_lt (Nat.lt_of_lt_of_le (Heap.lt_size e) I.ok.above))).trans e1⟩
  ·obtain ⟨o',e1⟩:=I.base.there b o e hx
   exact ⟨o',(hs.2 b (Nat.ne_of_lt (Nat.lt_of_lt_of_le (Heap.lt_size e) I.ok.above))).trans e1⟩
  ·by_cases hj:j=i
   ·subst hj
    rw [hi] at e1;cases e1
    rw [List.getElem?_set_self hiσ] at e2
    cases e2
    exact ⟨u,r,.inl ⟨hk,by simp⟩⟩
   ·rw [List.getElem?_set_ne (Ne.symm hj)] at e2
    obtain ⟨u',r',q⟩:=hl j y v' e1 e2 e3
    refine ⟨u',r',?_⟩
    rcases q with ⟨k,e⟩|⟨k,c,e,z⟩
    ·refine .inl ⟨k,?_⟩
     have:y≠x:=fun e=>hj (Zes hN e1 (e▸hi))
     simp [this,e]
    ·exact .inr ⟨k,c,e,z.sameBut hs (cne y c e)⟩
  ·obtain ⟨w',z⟩:=I.cell y c e
   exact ⟨w',z.sameBut hs (cne y c e)⟩
  ·obtain ⟨e,n,ne,nf,d⟩:=I.pin p hp
   exact ⟨(hs.2 p.1 ne).trans e,n,ne,nf,d⟩
 ·have hfn:X.fn x=true:=by
   rcases hf with z|z
   ·exact z
   ·rw [z] at hk;cases hk
  obtain ⟨c,hc⟩:=I.ok.has x (.inl hk)
  obtain ⟨w',z⟩:=I.cell x c hc
  refine wpAny_storeName_cell I.ok.kind hk hc z (fun h' hc' hs=>?_)
  obtain ⟨oc,hoc,hocd⟩:=id z
  refine h {s with heap:=h'} ⟨I.ok,I.os,I.bare,⟨fun b o e n hb hx=>?_,fun b o e n hb hx=>?_,I.base.free,fun b o e hx=>?_,I.base.tups,I.base.frzs,I.base.tbls⟩,⟨m,hn.sameBut hs (Ne.symm (cne x c hc)),fun j y v' e1 e2 e3=>?_⟩,fun y c' e=>?_,I.free,I.freeC,fun p hp=>?_,tracked ⟨oc,hoc,I.freeC x c hc⟩ hs,by simpa using I.len⟩ ⟨c,hs,.inr hc⟩
  ·exact (hs.2 b (Nat.ne_of_lt (Nat.lt_of_lt_of_le (Heap.lt_size e) (I.ok.cab x c hfn hc)))).trans (I.base.keep b o e n hb hx)
  ·obtain ⟨sl,e1⟩:=I.base.slot b o e n hb hx
   exact ⟨sl,(hs.2 b (Nat.ne_of_lt (Nat.lt_of_lt_of_le (Heap.lt_size e) (I.ok.cab x c hfn hc)))).trans e1⟩
  ·obtain ⟨o',e1⟩:=I.base.there b o e hx
   exact ⟨o',(hs.2 b (Nat.ne_of_lt (Nat.lt_of_lt_of_le (Heap.lt_size e) (I.ok.cab x c hfn hc)))).trans e1⟩
  ·by_cases hj:j=i
   ·subst hj
    rw [hi] at e1;cases e1
    rw [List.getElem?_set_self hiσ] at e2
    cases e2
    exact ⟨u,r,.inr ⟨.inl hk,c,hc,hc'⟩⟩
   ·rw [List.getElem?_set_ne (Ne.symm hj)] at e2
    obtain ⟨u',r',q⟩:=hl j y v' e1 e2 e3
    refine ⟨u',r',?_⟩
    rcases q with q|⟨k,c',e,z'⟩
    ·exact .inl q
    ·refine .inr ⟨k,c',e,z'.sameBut hs ?_⟩
     rintro rfl
     exact hj (Zes hN e1 (I.ok.inj _ _ _ e hc▸hi))
  ·by_cases hcc:c'=c
   ·subst hcc;exact ⟨_,hc'⟩
   ·obtain ⟨w2,z2⟩:=I.cell y c' e
    exact ⟨w2,z2.sameBut hs hcc⟩
  ·obtain ⟨e,n,ne,nf,d⟩:=I.pin p hp
   refine ⟨(hs.2 p.1 ?_).trans e,n,ne,nf,d⟩
   intro q
   rw [q,hoc] at e
   have q':oc=p.2:=Option.some.inj e
   exact d w' (by rw [<-q'];exact hocd)
theorem ZbM {M:Model} {A:Around} {E:Value->Shared->Prop} {i:Nat} {x:Str} {v:V} {u:Value} {Q:Unit->Shared->Prop} (I:Inv X Za σ H s) (hN:X.N.Nodup) (hi:X.N[i]?=some x) (hx:Loc X.env.scope x) (r:Z2 v u)
 (h:∀s',Inv X Za (σ.set i (some v)) H s'->Q () s') (hf:X.fn x=true\/X.env.scope.names.lookup x=some .local:=by first|exact .inl rfl|exact .inr rfl|assumption):wpAny M A (storeName X.env x u) Q E s:=
 ZkR I hN hi hx r (fun s' I' _=>h s' I') hf
theorem Inv.call' {s':Shared} {ch:List Addr} (I:Inv X Za σ H s) (ho:s'.os=s.os) (u:Un (frs X.stack) ch H H' s.heap s'.heap) (hok:HOk X.prog X.w H' s'.heap) (hg:AllBare s'.gens)
 (hch:∀b∈ch,(b∈X.ex\/X.s₀.heap.objs.size<=b)/\b≠X.env.locals/\(∀x c,X.env.cells.lookup x=some c->c≠b)/\∀p∈X.pn++Za,p.1≠b):Inv X Za σ H' s':=by
 obtain ⟨h',g',d',t',o'⟩:=s'
 have e:o'=s.os:=ho
 subst e
 exact I.call (g':=g') (t':=t') (d':=d') u hok hg hch
end
abbrev XK:=Value->Option Addr->Hp->Prop
abbrev St:=List (Option V)
abbrev VK:=V->Hp->Prop
abbrev TE:=St->Hp->VK->Prop
abbrev TT:=St->Hp->(Bool->Hp->Prop)->Prop
abbrev TA:=St->Hp->(List V->Hp->Prop)->Prop
structure Zbw where
 nx:St->Hp->Prop
 rt:VK
 bk:St->Hp->Prop:=fun _ _=>False
 ct:St->Hp->Prop:=fun _ _=>False
abbrev TS:=Zbw->St->Hp->Prop
def EP (X:Cx) (Za:List (Addr×Obj)) (σ:St) (Q:VK) (u:Value) (s':Shared):Prop:=∃v H',Inv X Za σ H' s'/\Z2 v u/\Q v H'
def TP (X:Cx) (Za:List (Addr×Obj)) (σ:St) (Q:Bool->Hp->Prop) (b:Bool) (s':Shared):Prop:=∃H',Inv X Za σ H' s'/\Q b H'
def AP (X:Cx) (Za:List (Addr×Obj)) (σ:St) (Q:List V->Hp->Prop) (us:List Value) (s':Shared):Prop:=∃vs H',Inv X Za σ H' s'/\ZD vs us/\Q vs H'
def SP (X:Cx) (Za:List (Addr×Obj)) (D:Zbw) (f:Flow) (s':Shared):Prop:=
 match f with
 | .next=>∃σ' H',Inv X Za σ' H' s'/\D.nx σ' H'
 | .brk=>∃σ' H',Inv X Za σ' H' s'/\D.bk σ' H'
 | .cont=>∃σ' H',Inv X Za σ' H' s'/\D.ct σ' H'
 | .ret u=>∃v σ' H',Inv X Za σ' H' s'/\Z2 v u/\D.rt v H'
def PE (X:Cx) (e:Expr) (t:TE):Prop:=
 ∀(Za:List (Addr×Obj)) (s:Shared) (σ:St) (H:Hp) (Q:VK),Inv X Za σ H s->t σ H Q->wpAny (model X.prog X.w) X.A (eval e X.env) (EP X Za σ Q) X.xe s
def PT (X:Cx) (e:Expr) (t:TT):Prop:=
 ∀(Za:List (Addr×Obj)) (s:Shared) (σ:St) (H:Hp) (Q:Bool->Hp->Prop),Inv X Za σ H s->t σ H Q->wpAny (model X.prog X.w) X.A (isTrue e X.env (eval e X.env)) (TP X Za σ Q) X.xe s
def PW (X:Cx) (e:Expr) (t:TT):Prop:=
 ∀(whole:Sem Value) (Za:List (Addr×Obj)) (s:Shared) (σ:St) (H:Hp) (Q:Bool->Hp->Prop),Inv X Za σ H s->t σ H Q->wpAny (model X.prog X.w) X.A (isTrue e X.env whole) (TP X Za σ Q) X.xe s
theorem PW.pt {X:Cx} {e:Expr} {t:TT} (h:PW X e t):PT X e t:=h _
def PA (X:Cx) (es:List Expr) (t:TA):Prop:=
 ∀(pos:Pos) (Za:List (Addr×Obj)) (s:Shared) (σ:St) (H:Hp) (Q:List V->Hp->Prop),Inv X Za σ H s->t σ H Q->wpAny (model X.prog X.w) X.A (spliced (backTo pos (starEach es X.env))) (AP X Za σ Q) X.xe s
def PS (X:Cx) (st:Stmt) (t:TS):Prop:=
 ∀(Za:List (Addr×Obj)) (s:Shared) (σ:St) (H:Hp) (D:Zbw),Inv X Za σ H s->t D σ H->wpAny (model X.prog X.w) X.A (exec st X.env) (SP X Za D) X.xe s
def PSs (X:Cx) (st:List Stmt) (t:TS):Prop:=
 ∀(Za:List (Addr×Obj)) (s:Shared) (σ:St) (H:Hp) (D:Zbw),Inv X Za σ H s->t D σ H->wpAny (model X.prog X.w) X.A (execs st X.env) (SP X Za D) X.xe s
theorem thn {α:Type} {t:Sem α} {Q Q':α->Shared->Prop} {M:Model} {A:Around} {E:Value->Shared->Prop} {s:Shared} (h:wpAny M A t Q E s) (hQ:∀a s,Q a s->Q' a s):wpAny M A t Q' E s:=wpAny_mono h hQ fun _ _ x=>x
section
variable {X:Cx}
def ZyV (i:Nat):TE:=fun σ H Q=>∃v,σ[i]?=some (some v)/\Q v H
def tC (v:V):TE:=fun _ H Q=>Q v H
theorem ZsG {i:Nat} {x:Str} {pos:Pos} (hN:X.N[i]?=some x) (hv:Vis X.env.scope x) (hd:(x==("__debug__":Str))=false:=by decide) (hcd:(x==("__classdict__":Str))=false:=by decide):PE X (.Name x pos) (ZyV i):=by
 intro Za s σ H Q I h
 obtain ⟨v,e,h⟩:=h
 obtain ⟨m,hn,hl⟩:=I.loc
 obtain ⟨u,r,l⟩:=hl i x v hN e hv
 have fin:EP X Za σ Q u s:=⟨v,H,I,r,h⟩
 rcases l with ⟨hk,hm⟩|⟨hk,c,hc,hcell⟩
 ·exact wpAny_Name (wpAny_loadName_local I.ok.kind hk hn hm fin) hd
 ·rcases hk with hk|hk
  ·exact wpAny_Name (wpAny_loadName_cell I.ok.kind hk hc hcell fin) hd
  ·exact wpAny_Name (wpAny_loadName_free I.ok.kind hk hc hcell fin hcd) hd
theorem Zl {i j pos}:PE X (.Constant (.int i) j pos) (tC (.int i)):=fun _ _ _ H _ I h=>wpAny_Constant_int ⟨.int i,H,I.tok _,⟨_,rfl⟩,h⟩
theorem qY {b j pos}:PE X (.Constant (.bool b) j pos) (tC (.bl b)):=fun _ _ _ H _ I h=>Constant_bool ⟨.bl b,H,I,rfl,h⟩
theorem ZbU {j pos}:PE X (.Constant .none j pos) (tC .non):=fun _ _ _ H _ I h=>Constant_none ⟨.non,H,I,rfl,h⟩
theorem Zs {x j pos}:PE X (.Constant (.str x) j pos) (tC (.str x)):=fun _ _ _ H _ I h=>Calls.Constant_str ⟨.str x,H,I.tok _,⟨_,rfl⟩,h⟩
def Gl (X:Cx) (x:Str):Prop:=X.env.kindOf x=some .globalImplicit
theorem Zbq {E:Value->Shared->Prop} {Za:List (Addr×Obj)} {s:Shared} {σ:St} {H:Hp} {x:Str} {u:Value} {pos:Pos} {Q:Value->Shared->Prop} (I:Inv X Za σ H s) (hg:Gl X x) (hm:X.mg x=some u) (h:Q u s)
 (hd:(x==("__debug__":Str))=false:=by decide):wpAny (model X.prog X.w) X.A (eval (.Name x pos) X.env) Q E s:=
 Calls.Name_function_global I.ok.kind hg (Calls.loadGlobal_global (by rw [I.ok.glob];exact I.mod.glob.keeps I.bk) hm h) hd
theorem Zbo {E:Value->Shared->Prop} {Za:List (Addr×Obj)} {s:Shared} {σ:St} {H:Hp} {x:Str} {u:Value} {pos:Pos} {Q:Value->Shared->Prop} (I:Inv X Za σ H s) (hg:Gl X x) (hm:X.mg x=none) (hv:bootBuiltins x=some u) (h:Q u s)
 (hn:x≠"__name__":=by decide) (hd:(x==("__debug__":Str))=false:=by decide):wpAny (model X.prog X.w) X.A (eval (.Name x pos) X.env) Q E s:=by
 obtain ⟨mb,h1,h2⟩:=I.mod.blt
 exact Calls.Name_function_global I.ok.kind hg (Calls.loadGlobal_builtin (by rw [I.ok.glob];exact I.mod.glob.keeps I.bk) hm (by rw [I.ok.blt];exact h1.keeps I.bk) ((h2 x hn).trans hv) h) hd
theorem Jt {x:Str} {v:V} {u:Value} {pos:Pos} (hg:Gl X x) (hm:X.mg x=some u) (r:Z2 v u) (hd:(x==("__debug__":Str))=false:=by decide):PE X (.Name x pos) (tC v):=
 fun _ _ _ H _ I h=>Zbq I hg hm ⟨v,H,I,r,h⟩ hd
theorem Zjw {x:Str} {v:V} {u:Value} {pos:Pos} (hg:Gl X x) (hm:X.mg x=none) (hv:bootBuiltins x=some u) (r:Z2 v u) (hn:x≠"__name__":=by decide) (hd:(x==("__debug__":Str))=false:=by decide):PE X (.Name x pos) (tC v):=
 fun _ _ _ H _ I h=>Zbo I hg hm hv ⟨v,H,I,r,h⟩ hn hd
variable {a b:Expr} {ta tb:TE} {pos:Pos}
def PC (X:Cx) (op:CmpOp) (a b:Expr) (t:TE):Prop:=
 ∀(Za:List (Addr×Obj)) (s:Shared) (σ:St) (H:Hp) (Q:VK),Inv X Za σ H s->t σ H Q->
  wpAny (model X.prog X.w) X.A (eval a X.env) (fun v s₁=>wpAny (model X.prog X.w) X.A (eval b X.env) (fun u s₂=>wpAny (model X.prog X.w) X.A (compareOp op v u) (EP X Za σ Q) X.xe s₂) X.xe s₁) X.xe s
def tB (t:TE):TT:=fun σ H Q=>t σ H fun x H1=>∃c,x=.bl c/\Q c H1
theorem Zgw {op:CmpOp} {t:TE} (h:PC X op a b t) (h1:behindInMarks op b=false:=by first|exact nobehind _ (by decide) (by decide)|rfl):PT X (.Compare a [op] [b] pos) (tB t):=by
 intro Za s σ H Q I hw
 refine wpAny_isTrue_Compare1 (thn (h Za s σ H _ I hw) fun v s1 h1=>thn h1 fun u s2 h2=>thn h2 fun c s3 ⟨x,H1,I1,r1,q1⟩=>?_) h1
 obtain ⟨d,rfl,q⟩:=q1
 cases r1
 exact wpAny_truthy_bool ⟨H1,I1,q⟩
variable {tA tB':TT} {qP:List Expr}
def ZwV (t u:TT):TT:=fun σ H Q=>t σ H fun c H1=>if c=true then u σ H1 Q else Q false H1
def tOr (t u:TT):TT:=fun σ H Q=>t σ H fun c H1=>if c=true then Q true H1 else u σ H1 Q
def Zhh (t:TT):TT:=fun σ H Q=>t σ H fun c H1=>Q (!c) H1
theorem Zj3 (ha:PT X a tA):PW X (.BoolOp .And [a] pos) tA:=by
 intro wh Za s σ H Q I h
 refine isTrue_and (thn (ha Za s σ H Q I h) fun c s1 e=>?_)
 cases c with
 |true=>exact isTrue_and_nil e
 |false=>exact e
theorem Ze2 (ha:PT X a tA):PW X (.BoolOp .Or [a] pos) tA:=by
 intro wh Za s σ H Q I h
 refine isTrue_or (thn (ha Za s σ H Q I h) fun c s1 e=>?_)
 cases c with
 |false=>exact isTrue_or_nil e
 |true=>exact e
theorem ZnR (ha:PT X a tA) (hb:PW X (.BoolOp .And (b::qP) pos) tB'):PW X (.BoolOp .And (a::b::qP) pos) (ZwV tA tB'):=by
 intro wh Za s σ H Q I h
 refine isTrue_and (thn (ha Za s σ H _ I h) fun c s1 ⟨H1,I1,q1⟩=>?_)
 cases c with
 |true=>exact hb wh Za s1 σ H1 Q I1 q1
 |false=>exact ⟨H1,I1,q1⟩
theorem ZfW (ha:PT X a tA) (hb:PW X (.BoolOp .Or (b::qP) pos) tB'):PW X (.BoolOp .Or (a::b::qP) pos) (tOr tA tB'):=by
 intro wh Za s σ H Q I h
 refine isTrue_or (thn (ha Za s σ H _ I h) fun c s1 ⟨H1,I1,q1⟩=>?_)
 cases c with
 |true=>exact ⟨H1,I1,q1⟩
 |false=>exact hb wh Za s1 σ H1 Q I1 q1
theorem Zcz (ha:PT X a tA):PT X (.UnaryOp .Not a pos) (Zhh tA):=by
 intro Za s σ H Q I h
 exact isTrue_not (ha Za s σ H (fun c H1=>Q (!c) H1) I h)
def Zzk (ta tb:TE):TE:=fun σ H Q=>ta σ H fun x H1=>∃c,x=.bl c/\if c=true then tb σ H1 Q else Q (.bl false) H1
theorem Zmq {op} {t:TE} (h:PE X a t):PE X (.BoolOp op [a] pos) t:=fun Za s σ H Q I hw=>BoolOp_one (h Za s σ H Q I hw)
theorem ZuA (ha:PE X a ta) (hb:PE X (.BoolOp .And (b::qP) pos) tb):PE X (.BoolOp .And (a::b::qP) pos) (Zzk ta tb):=by
 intro Za s σ H Q I h
 refine BoolOp_and (thn (ha Za s σ H _ I h) fun v s1 ⟨x,H1,I1,r1,q1⟩=>?_)
 obtain ⟨c,rfl,q1⟩:=q1
 cases r1
 refine wpAny_truthy_bool ?_
 cases c with
 |true=>exact hb Za s1 σ H1 Q I1 q1
 |false=>exact ⟨.bl false,H1,I1,rfl,q1⟩
end
def SqL (K:PySem.W.Frag) (H:Hp) (a:Addr) (xs:List V):Prop:=
 Rd H a (.lst xs)\/
  ∃(o:Obj) (its:Array Value) (n:Nat),K.lookup a=some o/\o.cls=.type "list"/\o.dict=none/\o.data=.seq its n/\its.size<=sizeLine/\ZD xs its.toList
def SqT (K:PySem.W.Frag) (H:Hp) (a:Addr) (xs:List V):Prop:=
 Rd H a (.tup xs)\/
  ∃(o:Obj) (its:Array Value) (n:Nat),K.lookup a=some o/\o.cls=.type "tuple"/\o.data=.seq its n/\its.size<=sizeLine/\ZD xs its.toList
def ZA0:Value->Option V
 | .none=>some .non
 | .bool b=>some (.bl b)
 | .int i _=>some (.int i)
 | .str x _=>some (.str x)
 | .bytes b _=>some (.byt b)
 | .float b _=>some (.flt b)
 | .ref a=>some (.ref a)
 | .type n=>some (.ty n)
 |_=>none
theorem Z2.abs {x:V} {u:Value} (r:Z2 x u):ZA0 u=some x:=by
 cases x with
 |non=>cases r;rfl
 |bl _=>cases r;rfl
 |int _=>obtain ⟨t,rfl⟩:=r;rfl
 |str _=>obtain ⟨t,rfl⟩:=r;rfl
 |byt _=>obtain ⟨t,rfl⟩:=r;rfl
 |flt _=>obtain ⟨t,rfl⟩:=r;rfl
 |ref _=>cases r;rfl
 |ty _=>cases r;rfl
theorem Z2.inj {x y:V} {u:Value} (r:Z2 x u) (q:Z2 y u):x=y:=Option.some.inj (r.abs.symm.trans q.abs)
theorem ZD.inj:∀{xs ys:List V} {us:List Value},ZD xs us->ZD ys us->xs=ys
 |_,_,_,.nil,.nil=>rfl
 |_,_,_,.cons r t,.cons r' t'=>by rw [r.inj r',ZD.inj t t']
section
variable {X:Cx} {Za:List (Addr×Obj)} {σ:St} {H:Hp} {s:Shared} {a:Addr} {xs ys:List V}
theorem SqL.of {K:PySem.W.Frag} (h:H a=some (.lst xs)):SqL K H a xs:=.inl (.inl h)
theorem SqT.of {K:PySem.W.Frag} (h:H a=some (.tup xs)):SqT K H a xs:=.inl (.inl h)
theorem Inv.list (I:Inv X Za σ H s) (h:SqL X.K H a xs):∃its:List Value,ZD xs its/\PlainL s.heap a its.toArray/\xs.length<=sizeLine:=by
 rcases h with h|⟨o,its,n,hk,hc,hd,hs,hz,r⟩
 ·obtain ⟨z,its,n,r,e⟩:=h.ok I.hok
  exact ⟨its,r,⟨_,n,e,rfl,rfl,rfl⟩,z⟩
 ·refine ⟨its.toList,r,⟨o,n,I.kIn a o hk,hc,hd,by simpa using hs⟩,?_⟩
  have e:=r.length
  simp only [Array.length_toList] at e
  omega
theorem Inv.tuple (I:Inv X Za σ H s) (h:SqT X.K H a xs):∃its:List Value,ZD xs its/\IsTup s.heap a its.toArray/\xs.length<=sizeLine:=by
 rcases h with h|⟨o,its,n,hk,hc,hs,hz,r⟩
 ·obtain ⟨z,its,r,p⟩:=h.ok I.hok
  exact ⟨its,r,p,z⟩
 ·refine ⟨its.toList,r,⟨o,I.kIn a o hk,hc,n,by simpa using hs⟩,?_⟩
  have e:=r.length
  simp only [Array.length_toList] at e
  omega
theorem Inv.list_inj (I:Inv X Za σ H s) (h:SqL X.K H a xs) (h':SqL X.K H a ys):xs=ys:=by
 obtain ⟨its,r,⟨o,n,e,_,_,d⟩,_⟩:=I.list h
 obtain ⟨its',r',⟨o',n',e',_,_,d'⟩,_⟩:=I.list h'
 rw [e] at e';cases e'
 rw [d] at d'
 injection d' with d1 _
 have:its=its':=by simpa using congrArg Array.toList d1
 subst this
 exact r.inj r'
theorem Inv.tuple_inj (I:Inv X Za σ H s) (h:SqT X.K H a xs) (h':SqT X.K H a ys):xs=ys:=by
 obtain ⟨its,r,⟨o,e,_,n,d⟩,_⟩:=I.tuple h
 obtain ⟨its',r',⟨o',e',_,n',d'⟩,_⟩:=I.tuple h'
 rw [e] at e';cases e'
 rw [d] at d'
 injection d' with d1 _
 have:its=its':=by simpa using congrArg Array.toList d1
 subst this
 exact r.inj r'
end
abbrev Cx.wish (X:Cx) (E:Value->Shared->Prop):Cx:= {X with xe:=E}
abbrev Cx.nox (X:Cx):Cx:=X.wish fun _ _=>False
theorem Cx.Ok.wish {X:Cx} (ok:X.Ok) (E:Value->Shared->Prop):(X.wish E).Ok:=
 ⟨ok.mod,ok.kind,ok.glob,ok.blt,ok.above,ok.inj,ok.has,ok.cab,ok.hd,ok.frames,ok.stk,ok.exf,ok.bs,ok.bsz,ok.noex,ok.exfs,ok.funs,ok.frf⟩
theorem Cx.Ok.unwish {X:Cx} {E:Value->Shared->Prop} (ok:(X.wish E).Ok):X.Ok:=
 ⟨ok.mod,ok.kind,ok.glob,ok.blt,ok.above,ok.inj,ok.has,ok.cab,ok.hd,ok.frames,ok.stk,ok.exf,ok.bs,ok.bsz,ok.noex,ok.exfs,ok.funs,ok.frf⟩
section
variable {X:Cx} {Za:List (Addr×Obj)} {σ:St} {H:Hp} {s:Shared} {E:Value->Shared->Prop}
theorem Inv.wish (I:Inv X Za σ H s) (E:Value->Shared->Prop):Inv (X.wish E) Za σ H s:=⟨I.ok.wish E,I.os,I.bare,I.base,I.loc,I.cell,I.free,I.freeC,I.pin,I.hok,I.len⟩
theorem Inv.unwish (I:Inv (X.wish E) Za σ H s):Inv X Za σ H s:=⟨I.ok.unwish,I.os,I.bare,I.base,I.loc,I.cell,I.free,I.freeC,I.pin,I.hok,I.len⟩
theorem SP.unwish {D:Zbw} {f:Flow} {s':Shared} (h:SP (X.wish E) Za D f s'):SP X Za D f s':=by
 cases f with
 |next=>obtain ⟨σ',H',I,q⟩:=h;exact ⟨σ',H',I.unwish,q⟩
 |brk=>obtain ⟨σ',H',I,q⟩:=h;exact ⟨σ',H',I.unwish,q⟩
 |cont=>obtain ⟨σ',H',I,q⟩:=h;exact ⟨σ',H',I.unwish,q⟩
 |ret u=>obtain ⟨v,σ',H',I,r,q⟩:=h;exact ⟨v,σ',H',I.unwish,r,q⟩
theorem PSs.nox {st:List Stmt} {t:TS} (h:PSs X.nox st t):PSs X st t:=fun Za s σ H D I hw=>
 wpAny_mono (h Za s σ H D (I.wish _) hw) (fun _ _ q=>q.unwish) fun _ _ z=>False.elim z
end
section
variable {X:Cx} {st:Stmt} {qP:List Stmt} {t u:TS} {e:Expr} {te:TE} {pos:Pos}
def zf:TS:=fun D σ H=>D.nx σ H
def zG (t u:TS):TS:=fun D σ H=>t {D with nx:=u D} σ H
theorem ZM:PSs X [] zf:=fun _ _ σ H _ I h=>wpAny_execs_nil ⟨σ,H,I,h⟩
theorem Ze (h1:PS X st t) (h2:PSs X qP u):PSs X (st::qP) (zG t u):=by
 intro Za s σ H D I h
 refine wpAny_execs_cons (thn (h1 Za s σ H {D with nx:=u D} I h) fun f s1 q=>?_)
 cases f with
 |next=>
  obtain ⟨σ',H',I',q⟩:=q
  exact h2 Za s1 σ' H' D I' q
 |ret v=>exact q
 |brk=>exact q
 |cont=>exact q
theorem Zo (h1:PS X st t):PSs X [st] t:=by
 intro Za s σ H D I h
 refine wpAny_execs_cons (thn (h1 Za s σ H D I h) fun f s1 q=>?_)
 cases f with
 |next=>exact wpAny_execs_nil q
 |ret v=>exact q
 |brk=>exact q
 |cont=>exact q
theorem Inv.quiet {Za:List (Addr×Obj)} {σ:St} {H:Hp} {s:Shared} (I:Inv X Za σ H s):interactive X.env=false:=by simp [interactive,I.ok.kind]
def ZaM (te:TE):TS:=fun D σ H=>te σ H fun _ H1=>D.nx σ H1
theorem qM (he:PE X e te) (hs:swapsWith e none pos.line X.env=pure false:=by rfl):PS X (.Expr e pos) (ZaM te):=by
 intro Za s σ H D I h
 exact wpAny_Expr_any (thn (he Za s σ H _ I h) fun v s1 ⟨x,H1,I1,r1,q1⟩=>⟨σ,H1,I1,q1⟩) I.quiet hs
def zP (te:TE):TS:=fun D σ H=>te σ H D.rt
theorem ZI (he:PE X e te):PS X (.Return (some e) pos) (zP te):=by
 intro Za s σ H D I h
 exact wpAny_Return_some (thn (he Za s σ H _ I h) fun v s1 ⟨x,H1,I1,r1,q1⟩=>⟨x,σ,H1,I1,r1,q1⟩)
def Zrq:TS:=fun D _ H=>D.rt .non H
theorem Zqd:PS X (.Return none pos) Zrq:=fun _ _ σ H _ I h=>wpAny_Return_none ⟨.non,σ,H,I,rfl,h⟩
def YH (c:TT) (t u:TS):TS:=fun D σ H=>c σ H fun b H1=>if b=true then t D σ H1 else u D σ H1
theorem zd {c:Expr} {a b:List Stmt} {tc:TT} (hc:PT X c tc) (ha:PSs X a t) (hb:PSs X b u):PS X (.If c a b pos) (YH tc t u):=by
 intro Za s σ H D I h
 refine wpAny_If (thn (hc Za s σ H _ I h) fun d s1 ⟨H1,I1,q1⟩=>?_)
 cases d with
 |true=>exact ha Za s1 σ H1 D I1 q1
 |false=>exact hb Za s1 σ H1 D I1 q1
end
abbrev TG:=V->St->Hp->(St->Hp->Prop)->Prop
abbrev TGs:=List V->St->Hp->(St->Hp->Prop)->Prop
def PG (X:Cx) (target:Expr) (t:TG):Prop:=
 ∀(Za:List (Addr×Obj)) (s:Shared) (σ:St) (H:Hp) (v:V) (u:Value) (Q:St->Hp->Prop),Inv X Za σ H s->Z2 v u->t v σ H Q->
  wpAny (model X.prog X.w) X.A (assign target X.env u) (fun _ s'=>∃σ' H',Inv X Za σ' H' s'/\Q σ' H') X.xe s
def PGs (X:Cx) (ts:List Expr) (t:TGs):Prop:=
 ∀(Za:List (Addr×Obj)) (s:Shared) (σ:St) (H:Hp) (vs:List V) (us:List Value) (Q:St->Hp->Prop),Inv X Za σ H s->ZD vs us->t vs σ H Q->
  wpAny (model X.prog X.w) X.A (assignInOrder ((assignEach ts X.env).map (·.2)) us) (fun _ s'=>∃σ' H',Inv X Za σ' H' s'/\Q σ' H') X.xe s
abbrev TIp:=V->V->Hp->VK->Prop
def PIp (X:Cx) (op:Operator) (t:TIp):Prop:=
 ∀(Za:List (Addr×Obj)) (s:Shared) (σ:St) (H:Hp) (x y:V) (v u:Value) (Q:VK),Inv X Za σ H s->Z2 x v->Z2 y u->t x y H Q->
  wpAny (model X.prog X.w) X.A (inplaceOp op v u) (EP X Za σ Q) X.xe s
section
variable {X:Cx} {pos:Pos}
def Zz (i:Nat):TG:=fun v σ H Q=>Q (σ.set i (some v)) H
theorem zb {i:Nat} {x:Str} (hN:X.N.Nodup) (hi:X.N[i]?=some x) (hx:Loc X.env.scope x) (hf:X.fn x=true\/X.env.scope.names.lookup x=some .local:=by first|exact .inl rfl|exact .inr rfl|assumption):PG X (.Name x pos) (Zz i):=by
 intro Za s σ H v u Q I r h
 exact wpAny_assign_Name (ZbM I hN hi hx r (fun s' I'=>⟨_,H,I',h⟩) hf)
def ZpX:TGs:=fun vs σ H Q=>vs=[]/\Q σ H
def ZhY (t:TG) (u:TGs):TGs:=fun vs σ H Q=>∃v r,vs=v::r/\t v σ H fun σ' H'=>u r σ' H' Q
theorem ZgH:PGs X [] ZpX:=by
 intro Za s σ H vs us Q I r h
 obtain ⟨e,h⟩:=h
 subst e
 cases r
 exact assignInOrder_nil ⟨σ,H,I,h⟩
theorem Zbd {e:Expr} {es:List Expr} {t:TG} {u:TGs} (h1:PG X e t) (h2:PGs X es u)
 (hs:(assignEach (e::es) X.env).map (·.2)=assign e X.env::(assignEach es X.env).map (·.2):=by rfl):PGs X (e::es) (ZhY t u):=by
 intro Za s σ H vs us Q I r h
 obtain ⟨v,vr,e1,h⟩:=h
 subst e1
 cases r with
 |cons r rr=>
  rw [hs]
  refine assignInOrder_cons (thn (h1 Za s σ H _ _ _ I r h) fun _ s1 ⟨σ1,H1,I1,q1⟩=>?_)
  exact h2 Za s1 σ1 H1 _ _ Q I1 rr q1
def ZoW (K:PySem.W.Frag) (n:Nat) (t:TGs):TG:=fun v σ H Q=>∃a xs,v=.ref a/\SqT K H a xs/\xs.length=n/\t xs σ H Q
theorem Zpf {es:List Expr} {k:Nat} {t:TGs} {n:Nat} (hc:X.calm=true) (h:PGs X es t)
 (hn:(assignEach es X.env).length=n:=by rfl) (hst:(assignEach es X.env).findIdx? (·.1)=none:=by rfl):PG X (.Tuple es k pos) (ZoW X.K n t):=by
 intro Za s σ H v u Q I r hw
 obtain ⟨a,xs,e1,hq,hl,hw⟩:=hw
 subst e1
 cases r
 obtain ⟨its,rv,ht,hz⟩:=I.tuple hq
 refine assign_Tuple_tuple (I.ok.hd hc) ht (by simp [hn,<-hl,rv.length]) hst fun h' hx=>?_
 have I1:Inv X Za σ H {s with heap:=h'}:=I.kept (t':=s.toks) fun b o e=>hx b o (Nat.ne_of_lt (Heap.lt_size e)) e
 exact h Za _ σ H xs _ Q I1 (by simpa using rv) hw
def Z3 (te:TE) (g:TG):TS:=fun D σ H=>te σ H fun x H1=>g x σ H1 D.nx
theorem Zpt {tg e:Expr} {te:TE} {g:TG} (he:PE X e te) (hg:PG X tg g) (hs:swapsWithSole [tg] e pos.line X.env=pure false:=by rfl) (hw:swappedStores [tg] e X.env=pure none:=by rfl)
 (h1:(assignEach [tg] X.env).map (·.2)=[assign tg X.env]:=by rfl):PS X (.Assign [tg] e pos) (Z3 te g):=by
 intro Za s σ H D I h
 refine wpAny_Assign_stores (thn (he Za s σ H _ I h) fun v s1 ⟨x,H1,I1,r1,q1⟩=>?_) hs hw
 rw [h1]
 exact thn (hg Za s1 σ H1 x v _ I1 r1 q1) fun _ s2 q=>q
theorem Zu {i:Nat} {x:Str} {e:Expr} {te:TE} {pos':Pos} (hN:X.N.Nodup) (hi:X.N[i]?=some x) (hx:Loc X.env.scope x) (he:PE X e te) (hs:swapsWith e (some (.Name x pos')) pos.line X.env=pure false:=by rfl) (hf:X.fn x=true\/X.env.scope.names.lookup x=some .local:=by first|exact .inl rfl|exact .inr rfl|assumption):
 PS X (.Assign [.Name x pos'] e pos) (Z3 te (Zz i)):=by
 intro Za s σ H D I h
 refine wpAny_Assign_Name (thn (he Za s σ H _ I h) fun v s1 ⟨y,H1,I1,r1,q1⟩=>?_) hs
 exact ZbM I1 hN hi hx r1 (fun s2 I2=>⟨_,H1,I2,q1⟩) hf
def ZA1 (i:Nat) (te:TE) (ti:TIp):TS:=fun D σ H=>∃x,σ[i]?=some (some x)/\te σ H fun y H1=>ti x y H1 fun z H2=>D.nx (σ.set i (some z)) H2
theorem Zsr {i:Nat} {x:Str} {e:Expr} {te:TE} {op:Operator} {ti:TIp} {pos':Pos} (hN:X.N.Nodup) (hi:X.N[i]?=some x) (hx:Loc X.env.scope x) (he:PE X e te) (ho:PIp X op ti) (hf:X.fn x=true\/X.env.scope.names.lookup x=some .local:=by first|exact .inl rfl|exact .inr rfl|assumption):
 PS X (.AugAssign (.Name x pos') op e pos) (ZA1 i te ti):=by
 intro Za s σ H D I h
 obtain ⟨v,e1,h⟩:=h
 obtain ⟨m,hn,hl⟩:=I.loc
 have vis:Vis X.env.scope x:=by rcases hx with k|k;exact .inl k;exact .inr (.inl k)
 obtain ⟨u,r,l⟩:=hl i x v hi e1 vis
 refine wpAny_AugAssign_Name ?_
 have go:wpAny (model X.prog X.w) X.A (eval e X.env) (fun w s₂=>wpAny (model X.prog X.w) X.A (inplaceOp op u w) (fun r s₃=>wpAny (model X.prog X.w) X.A (storeName X.env x r) (fun _=>SP X Za D .next) X.xe s₃) X.xe s₂) X.xe s:=by
  refine thn (he Za s σ H _ I h) fun w s1 ⟨y,H1,I1,r1,q1⟩=>?_
  refine thn (ho Za s1 σ H1 v y u w _ I1 r r1 q1) fun z s2 ⟨zv,H2,I2,r2,q2⟩=>?_
  exact ZbM I2 hN hi hx r2 (fun s3 I3=>⟨_,H2,I3,q2⟩) hf
 rcases l with ⟨hk,hm⟩|⟨hk,c,hc,hcell⟩
 ·exact wpAny_loadName_local I.ok.kind hk hn hm go
 ·rcases hk with hk|hk
  ·exact wpAny_loadName_cell I.ok.kind hk hc hcell go
  ·rcases hx with k|k
   ·have:X.env.scope.names.lookup x=some .free:=hk
    rw [k] at this;cases this
   ·have:X.env.scope.names.lookup x=some .free:=hk
    rw [k] at this;cases this
end
section
variable {X:Cx} {pos:Pos}
def ZvD (c:TT) (tb:TS):TS:=fun D σ H=>∃W:Nat->St->Hp->Prop,(∃m,W m σ H)/\∀m σ H,W m σ H->
 c σ H fun b H1=>if b=true then ∃N:St->Hp->Prop,(∀σ' H',N σ' H'->∃m',m'<m/\W m' σ' H')/\tb {D with nx:=N,ct:=N,bk:=D.nx} σ H1 else D.nx σ H1
theorem Zoc {c:Expr} {body:List Stmt} {tc:TT} {tb:TS} (hp:PassesOwn (model X.prog X.w) X.A X.env X.xe) (hc:PT X c tc) (hb:PSs X body tb):PS X (.While c body [] pos) (ZvD tc tb):=by
 intro Za s σ H D I h
 obtain ⟨W,⟨m0,w0⟩,turn⟩:=h
 refine wpAny_While (codeAny_whileLoop (fun n s'=>∃σ' H',Inv X Za σ' H' s'/\W n σ' H') ?_ m0 ⟨σ,H,I,w0⟩)
 rintro n s1 ⟨σ1,H1,I1,w1⟩
 refine wpAny_passesOwn hp (thn (hc Za s1 σ1 H1 _ I1 (turn n σ1 H1 w1)) fun b s2 ⟨H2,I2,q2⟩=>?_)
 cases b with
 |true=>
  obtain ⟨N,hN,q2⟩:=q2
  rw [if_pos rfl]
  refine wpAny_passesOwn hp (thn (hb Za s2 σ1 H2 _ I2 q2) fun f s3 q3=>?_)
  cases f with
  |next=>
   obtain ⟨σ3,H3,I3,n3⟩:=q3
   obtain ⟨m',hm,w3⟩:=hN σ3 H3 n3
   exact ⟨m',hm,σ3,H3,I3,w3⟩
  |cont=>
   obtain ⟨σ3,H3,I3,n3⟩:=q3
   obtain ⟨m',hm,w3⟩:=hN σ3 H3 n3
   exact ⟨m',hm,σ3,H3,I3,w3⟩
  |brk=>exact q3
  |ret v=>exact q3
 |false=>
  rw [if_neg Bool.false_ne_true]
  exact wpAny_execs_nil ⟨σ1,H2,I2,q2⟩
end
structure It where
 go:Nat->Hp->Prop
 yld:Nat->Hp->V->Hp->Prop
 stop:Nat->Hp->Prop
def Zcu (X:Cx) (Za:List (Addr×Obj)) (H:Hp) (b:Addr):Prop:=
 H b=none/\b≠X.env.locals/\b∉X.fs/\(b∈X.ex\/X.s₀.heap.objs.size<=b)/\(∀x c,X.env.cells.lookup x=some c->c≠b)/\∀p∈X.pn++Za,p.1≠b
theorem Inv.fpOk {X:Cx} {Za:List (Addr×Obj)} {σ:St} {H H':Hp} {s:Shared} {b:Addr} (I:Inv X Za σ H s) (hb:s.heap.objs.size<=b) (hn:H' b=none):Zcu X Za H' b:=by
 refine ⟨hn,Nat.ne_of_gt (Nat.lt_of_lt_of_le I.lt hb),I.nofs hb,.inr (Nat.le_trans I.sz hb),fun x c e z=>?_,fun p hp z=>?_⟩
 ·obtain ⟨v,q⟩:=I.cell x c e
  exact absurd (Nat.lt_of_lt_of_le q.lt (by rw [z];exact hb)) (Nat.lt_irrefl _)
 ·exact absurd (Nat.lt_of_lt_of_le (Heap.lt_size (I.pin p hp).1) (by rw [z];exact hb)) (Nat.lt_irrefl _)
structure Zln (P:Program) (w:World) (K:PySem.W.Frag) (tg:Expr) (J:It) (fp:List Addr) (it:Addr) (tn:Nat->Heap->Prop):Prop where
 mem:it∈fp
 obj:∀i h,tn i h->∀b∈fp,∃o,h.get? b=some o/\∀v,o.data≠ .cell v
 keep:∀i h h',tn i h->(∀b∈fp,∀o,h.get? b=some o->h'.get? b=some o)->tn i h'
 item:∀(X:Cx),X.prog=P->X.w=w->X.K=K->X.calm=true->∀(i:Nat) (Za:List (Addr×Obj)) (s:Shared) (σ:St) (H:Hp) (E:Value->Shared->Prop),Inv X Za σ H s->(∀b∈fp,Zcu X Za H b)->tn i s.heap->J.go i H->
  wpAny (model P w) X.A (pyNext (.ref it)) (fun r s1=>∃u,r=some u/\
   wpAny (model P w) X.A (letOwnedTupleGo tg (.ref it) u) (fun _ s2=>∃x H',Inv X Za σ H' s2/\Z2 x u/\J.yld i H x H'/\tn (i+1) s2.heap/\∀b∈fp,H' b=none) E s1) E s
 done:∀(X:Cx),X.prog=P->X.w=w->X.K=K->X.calm=true->∀(i:Nat) (Za:List (Addr×Obj)) (s:Shared) (σ:St) (H:Hp) (E:Value->Shared->Prop),Inv X Za σ H s->(∀b∈fp,Zcu X Za H b)->tn i s.heap->J.stop i H->
  wpAny (model P w) X.A (pyNext (.ref it)) (fun r s1=>r=none/\Inv X Za σ H s1) E s
 self:∀(A:Around) (i:Nat) (s:Shared) (Q:Value->Shared->Prop) (E:Value->Shared->Prop),tn i s.heap->Q (.ref it) s->wpAny (model P w) A (pyIter (.ref it)) Q E s
abbrev TI:=St->Hp->(It->Hp->Prop)->Prop
def PIE (X:Cx) (Za:List (Addr×Obj)) (σ:St) (tg:Expr) (R:It->Hp->Prop) (itv:Value) (s2:Shared):Prop:=
 ∃(it:Addr) (fp:List Addr) (tn:Nat->Heap->Prop) (J:It) (H':Hp),itv=.ref it/\Inv X Za σ H' s2/\Zln X.prog X.w X.K tg J fp it tn/\tn 0 s2.heap/\(∀b∈fp,Zcu X Za H' b)/\R J H'
def PI (X:Cx) (tg iter:Expr) (wi:TI):Prop:=
 ∀(Za:List (Addr×Obj)) (s:Shared) (σ:St) (H:Hp) (R:It->Hp->Prop),Inv X Za σ H s->wi σ H R->
  wpAny (model X.prog X.w) X.A (eval iter X.env) (fun v s1=>wpAny (model X.prog X.w) X.A (pyIter v) (PIE X Za σ tg R) X.xe s1) X.xe s
theorem Zhv {M:Model} {A:Around} {E:Value->Shared->Prop} {s:Shared} {tg:Expr} {it:Addr} {u:Value} {o:Obj} {n:String} {vs:Array Value} {Q:Unit->Shared->Prop} (ho:s.heap.get? it=some o) (hc:o.cls=.type n) (hd:o.data=.fields vs)
 (hn:["enumerate","zip","dict_itemiterator","dict_reverseitemiterator","odict_iterator","itertools.zip_longest","itertools.pairwise"].contains n=false) (hQ:Q () s):wpAny M A (letOwnedTupleGo tg (.ref it) u) Q E s:=by
 unfold letOwnedTupleGo
 cases tg<;>first
  |exact wpAny_pure hQ
  |(cases u<;>first
   |exact wpAny_pure hQ
   |(refine wpAny_bind (wpAny_load ho ?_)
     rw [hc,hd]
     show wpAny M A (if (["enumerate","zip","dict_itemiterator","dict_reverseitemiterator","odict_iterator","itertools.zip_longest","itertools.pairwise"].contains n && vs[0]?==some (rawInt _))=true then _ else _) Q E s
     rw [if_neg (by intro h;rw [hn,Bool.false_and] at h;cases h)]
     exact wpAny_pure hQ))
def Itl (K:PySem.W.Frag) (a:Addr):It:=
 ⟨fun i H=>∃xs x,SqL K H a xs/\xs[i]?=some x,fun i H x H'=>H'=H/\∀xs,SqL K H a xs->xs[i]?=some x,fun i H=>∃xs,SqL K H a xs/\xs.length<=i⟩
def Itt (K:PySem.W.Frag) (a:Addr):It:=
 ⟨fun i H=>∃xs x,SqT K H a xs/\xs[i]?=some x,fun i H x H'=>H'=H/\∀xs,SqT K H a xs->xs[i]?=some x,fun i H=>∃xs,SqT K H a xs/\xs.length<=i⟩
def Itr (lo:Int) (n:Nat):It:=⟨fun i _=>i<n,fun i H x H'=>H'=H/\x=.int (lo+i),fun i _=>n<=i⟩
theorem Zk5 {P:Program} {w:World} {K:PySem.W.Frag} {tg:Expr} (a it:Addr):Zln P w K tg (Itl K a) [it] it (fun i h=>h.IsListIter it a i) where
 mem:=by simp
 obj:=fun i h st b hb=>by
  have e:b=it:=by simpa using hb
  subst e
  obtain ⟨o,e,c,d⟩:=st
  exact ⟨o,e,fun v z=>by rw [d] at z;cases z⟩
 keep:=fun i h h' st k=>st.at fun o e=>k it (by simp) o e
 item:=by
  intro X hP hw hK hc i Za s σ H E I hf st hg
  subst hP hw hK
  obtain ⟨xs,x,hq,hx⟩:=hg
  obtain ⟨its,rv,p,hz⟩:=I.list hq
  obtain ⟨u,hu,ru⟩:=rv.get hx
  obtain ⟨f0,f1,f2,f3,f4,f5⟩:=hf it (by simp)
  refine wpAny_pyNext_list_item st p.isList (x:=u) (by simpa using hu) fun h' st' sb=>?_
  have I1:Inv X Za σ H {s with heap:=h'}:=I.turned (t':=s.toks) (fun b o hb e=>(sb.2 b hb).trans e) f0 f1 f3 f4 f5
  obtain ⟨o,e,c,d⟩:=id st'
  exact ⟨u,rfl,Zhv (s:= {s with heap:=h'}) e c d (by decide) ⟨x,H,I1,ru,⟨rfl,fun ys hy=>by rw [I.list_inj hy hq];exact hx⟩,st',fun b hb=>(hf b hb).1⟩⟩
 done:=by
  intro X hP hw hK hc i Za s σ H E I hf st hg
  subst hP hw hK
  obtain ⟨xs,hq,hx⟩:=hg
  obtain ⟨its,rv,p,hz⟩:=I.list hq
  obtain ⟨f0,f1,f2,f3,f4,f5⟩:=hf it (by simp)
  have hl:=rv.length
  exact wpAny_pyNext_list_end (I.ok.hd hc) st p.isList (by simp;omega) fun h' eb=>⟨rfl,I.turned (t':=s.toks) (fun b o hb e=>eb b o hb e) f0 f1 f3 f4 f5⟩
 self:=fun _ _ _ _ _ st h=>wpAny_pyIter_listiter st h
theorem ZiD {P:Program} {w:World} {K:PySem.W.Frag} {tg:Expr} (a it:Addr):Zln P w K tg (Itt K a) [it] it (fun i h=>h.IsTupleIter it a i) where
 mem:=by simp
 obj:=fun i h st b hb=>by
  have e:b=it:=by simpa using hb
  subst e
  obtain ⟨o,e,c,d⟩:=st
  exact ⟨o,e,fun v z=>by rw [d] at z;cases z⟩
 keep:=fun i h h' st k=>st.at fun o e=>k it (by simp) o e
 item:=by
  intro X hP hw hK hc i Za s σ H E I hf st hg
  subst hP hw hK
  obtain ⟨xs,x,hq,hx⟩:=hg
  obtain ⟨its,rv,p,hz⟩:=I.tuple hq
  obtain ⟨u,hu,ru⟩:=rv.get hx
  obtain ⟨f0,f1,f2,f3,f4,f5⟩:=hf it (by simp)
  refine wpAny_pyNext_tuple_item st (show s.heap.IsTuple a its.toArray from p) (x:=u) (by simpa using hu) fun h' st' sb=>?_
  have I1:Inv X Za σ H {s with heap:=h'}:=I.turned (t':=s.toks) (fun b o hb e=>(sb.2 b hb).trans e) f0 f1 f3 f4 f5
  obtain ⟨o,e,c,d⟩:=id st'
  exact ⟨u,rfl,Zhv (s:= {s with heap:=h'}) e c d (by decide) ⟨x,H,I1,ru,⟨rfl,fun ys hy=>by rw [I.tuple_inj hy hq];exact hx⟩,st',fun b hb=>(hf b hb).1⟩⟩
 done:=by
  intro X hP hw hK hc i Za s σ H E I hf st hg
  subst hP hw hK
  obtain ⟨xs,hq,hx⟩:=hg
  obtain ⟨its,rv,p,hz⟩:=I.tuple hq
  obtain ⟨f0,f1,f2,f3,f4,f5⟩:=hf it (by simp)
  have hl:=rv.length
  exact wpAny_pyNext_tuple_end (I.ok.hd hc) st (show s.heap.IsTuple a its.toArray from p) (by simp;omega) fun h' eb=>⟨rfl,I.turned (t':=s.toks) (fun b o hb e=>eb b o hb e) f0 f1 f3 f4 f5⟩
 self:=fun _ _ _ _ _ st h=>wpAny_pyIter_tupleiter st h
theorem ZiP {P:Program} {w:World} {K:PySem.W.Frag} {tg:Expr} (it:Addr) (lo:Int) (n:Nat):Zln P w K tg (Itr lo n) [it] it (fun i h=>IsRangeIter h it (lo+(i:Nat) * 1) ((n:Int)-(i:Nat)) 1) where
 mem:=by simp
 obj:=fun i h st b hb=>by
  have e:b=it:=by simpa using hb
  subst e
  exact ⟨_,st,fun v z=>by
   have z':Data.fields _=Data.cell v:=z
   cases z'⟩
 keep:=fun i h h' st k=>k it (by simp) _ st
 item:=by
  intro X hP hw hK hc i Za s σ H E I hf st hg
  subst hP hw hK
  obtain ⟨f0,f1,f2,f3,f4,f5⟩:=hf it (by simp)
  have W:=Walks.range (prog:=X.prog) (w:=X.w) (I.ok.hd hc) it lo 1 n
  refine W.item i s _ _ hg st fun v h' tk hv st' kk=>?_
  obtain ⟨t,rfl⟩:=hv
  have I1:Inv X Za σ H {s with heap:=h',toks:=tk}:=I.turned (fun b o hb e=>kk b o (by simpa using hb) e) f0 f1 f3 f4 f5
  refine ⟨_,rfl,Zhv (s:= {s with heap:=h',toks:=tk}) (n:="range_iterator") st' rfl rfl (by decide) ⟨.int (lo+i),H,I1,⟨t,?_⟩,⟨rfl,rfl⟩,st',fun b hb=>(hf b hb).1⟩⟩
  rw [Int.mul_one]
 done:=by
  intro X hP hw hK hc i Za s σ H E I hf st hg
  subst hP hw hK
  obtain ⟨f0,f1,f2,f3,f4,f5⟩:=hf it (by simp)
  exact wpAny_pyNext_range_end (I.ok.hd hc) st (by have:n<=i:=hg;omega) fun h' eb=>⟨rfl,I.turned (t':=s.toks) (fun b o hb e=>eb b o hb e) f0 f1 f3 f4 f5⟩
 self:=fun _ _ _ _ _ st h=>wpAny_pyIter_rangeiter st h
section
variable {X:Cx} {tg:Expr}
def Zzi (K:PySem.W.Frag) (tl:TE):TI:=fun σ H R=>tl σ H fun x H1=>∃a,x=.ref a/\(∃xs,SqL K H1 a xs)/\R (Itl K a) H1
def ZAL (K:PySem.W.Frag) (tl:TE):TI:=fun σ H R=>tl σ H fun x H1=>∃a,x=.ref a/\(∃xs,SqT K H1 a xs)/\R (Itt K a) H1
theorem ZcP {l:Expr} {tl:TE} (hl:PE X l tl):PI X tg l (Zzi X.K tl):=by
 intro Za s σ H R I h
 refine thn (hl Za s σ H _ I h) fun v s1 ⟨x,H1,I1,r1,q1⟩=>?_
 obtain ⟨a,e,⟨xs,hq⟩,q⟩:=q1
 subst e
 cases r1
 obtain ⟨its,rv,p,hz⟩:=I1.list hq
 refine wpAny_pyIter_list p.isList ?_
 refine ⟨s1.heap.objs.size,[s1.heap.objs.size],_,_,H1,rfl,I1.kept (t':=s1.toks) fun b o e=>Heap.get?_push_of_some _ e,Zk5 a _,⟨_,Heap.get?_push_size _ rfl,rfl,rfl⟩,fun b hb=>?_,q⟩
 have e:b=s1.heap.objs.size:=by simpa using hb
 subst e
 exact I1.fpOk (Nat.le_refl _) (I1.hok.fresh (Nat.le_refl _))
theorem ZtN {l:Expr} {tl:TE} (hl:PE X l tl):PI X tg l (ZAL X.K tl):=by
 intro Za s σ H R I h
 refine thn (hl Za s σ H _ I h) fun v s1 ⟨x,H1,I1,r1,q1⟩=>?_
 obtain ⟨a,e,⟨xs,hq⟩,q⟩:=q1
 subst e
 cases r1
 obtain ⟨its,rv,p,hz⟩:=I1.tuple hq
 refine wpAny_pyIter_tuple (show s1.heap.IsTuple a its.toArray from p) ?_
 refine ⟨s1.heap.objs.size,[s1.heap.objs.size],_,_,H1,rfl,I1.kept (t':=s1.toks) fun b o e=>Heap.get?_push_of_some _ e,ZiD a _,⟨_,Heap.get?_push_size _ rfl,rfl,rfl⟩,fun b hb=>?_,q⟩
 have e:b=s1.heap.objs.size:=by simpa using hb
 subst e
 exact I1.fpOk (Nat.le_refl _) (I1.hok.fresh (Nat.le_refl _))
theorem ZhW {Za:List (Addr×Obj)} {σ:St} {H:Hp} {s:Shared} {R:It->Hp->Prop} {E:Value->Shared->Prop} {lo hi:Int} {t u v:Tok} {tk:Nat} (I:Inv X Za σ H s) (h1: -(2 ^ 62)<=lo) (h2:lo<2 ^ 62) (h3: -(2 ^ 62)<=hi) (h4:hi<2 ^ 62)
 (q:R (Itr lo (hi-lo).toNat) H):wpAny (model X.prog X.w) X.A (pyIter (.ref s.heap.objs.size)) (PIE X Za σ tg R) E {s with heap:=s.heap.push {cls:=.type "range",data:=.fields #[.int lo t,.int hi u,.int 1 v]},toks:=tk}:=by
 refine wpAny_pyIter_range (IsRange.new ..) (small_one h1 h2 h3 h4) ?_
 have I1:Inv X Za σ H {s with heap:=s.heap.push {cls:=.type "range",data:=.fields #[.int lo t,.int hi u,.int 1 v]},toks:=tk}:=I.kept fun b o e=>Heap.get?_push_of_some _ e
 refine ⟨(s.heap.push {cls:=.type "range",data:=.fields #[.int lo t,.int hi u,.int 1 v]}).objs.size,[(s.heap.push {cls:=.type "range",data:=.fields #[.int lo t,.int hi u,.int 1 v]}).objs.size],_,_,H,rfl,
  I1.kept (t':=tk) fun b o e=>Heap.get?_push_of_some _ e,ZiP _ lo (hi-lo).toNat,?_,fun b hb=>?_,q⟩
 ·have e1:lo+((0:Nat):Int) * 1=lo:=by simp
  have e2:(((hi-lo).toNat:Nat):Int)-((0:Nat):Int)=Builtin.Range.rangeSize lo hi 1:=by rw [rangeSize_one];split<;>omega
  show IsRangeIter _ _ (lo+((0:Nat):Int) * 1) ((((hi-lo).toNat:Nat):Int)-((0:Nat):Int)) 1
  rw [e1,e2]
  exact Heap.get?_push_size _ rfl
 ·have e:b=(s.heap.push {cls:=.type "range",data:=.fields #[.int lo t,.int hi u,.int 1 v]}).objs.size:=by simpa using hb
  subst e
  exact I1.fpOk (Nat.le_refl _) (I1.hok.fresh (Nat.le_refl _))
def ZyQ (ta:TA):TI:=fun σ H R=>ta σ H fun vs H1=>∃j:Int,vs=[.int j]/\ -(2 ^ 62)<=j/\j<2 ^ 62/\R (Itr 0 j.toNat) H1
def ZAd (ta:TA):TI:=fun σ H R=>ta σ H fun vs H1=>∃i j:Int,vs=[.int i,.int j]/\(-(2 ^ 62)<=i/\i<2 ^ 62/\ -(2 ^ 62)<=j/\j<2 ^ 62)/\R (Itr i (j-i).toNat) H1
theorem Zk4 {a:Expr} {ta:TA} {p pos:Pos} (hg:Gl X "range") (hm:X.mg "range"=none) (ha:PA X [a] ta) (hs:starEach [a] X.env=[(false,eval a X.env)]:=by rfl):PI X tg (.Call (.Name "range" p) [a] [] pos) (ZyQ ta):=by
 intro Za s σ H R I h
 refine Call_ (Zbo I hg hm boot_range (PyProof.Rows.callWith_type1 (thn (ha pos Za s σ H _ I h) fun us s1 ⟨vs,H1,I1,r1,q1⟩=>?_) hs rfl))
 obtain ⟨j,e,q1,q2,q⟩:=q1
 subst e
 cases r1 with
 |cons r rr=>
  cases rr
  obtain ⟨t,rfl⟩:=r
  exact call_range_1 (ZhW I1 (by omega) (by omega) q1 q2 (by simpa using q))
theorem Zlm {a b:Expr} {ta:TA} {p pos:Pos} (hg:Gl X "range") (hm:X.mg "range"=none) (ha:PA X [a,b] ta) (hs:starEach [a,b] X.env=[(false,eval a X.env),(false,eval b X.env)]:=by rfl) (hs2:starEach [b] X.env=[(false,eval b X.env)]:=by rfl):
 PI X tg (.Call (.Name "range" p) [a,b] [] pos) (ZAd ta):=by
 intro Za s σ H R I h
 refine Call_ (Zbo I hg hm boot_range (PyProof.Rows.callWith_type1 (thn (ha pos Za s σ H _ I h) fun us s1 ⟨vs,H1,I1,r1,q1⟩=>?_) (by rw [hs,hs2]) (by rw [hs2];rfl)))
 obtain ⟨i,j,e,⟨q1,q2,q3,q4⟩,q⟩:=q1
 subst e
 cases r1 with
 |cons r rr=>
  cases rr with
  |cons r' rr=>
   cases rr
   obtain ⟨t,rfl⟩:=r
   obtain ⟨t',rfl⟩:=r'
   exact call_range_2 (ZhW I1 q1 q2 q3 q4 q)
def ZAF (wi:TI) (g:TG) (tb:TS):TS:=fun D σ H=>wi σ H fun J H1=>∃W:Nat->Nat->St->Hp->Prop,(∃m,W 0 m σ H1)/\∀i m σ H,W i m σ H->
 (J.stop i H/\D.nx σ H)\/(J.go i H/\∃N:St->Hp->Prop,(∀σ' H',N σ' H'->∃m',m'<m/\W (i+1) m' σ' H')/\∀x H',J.yld i H x H'->g x σ H' fun σ2 H2=>tb {D with nx:=N,ct:=N,bk:=D.nx} σ2 H2)
def J3 (fp:List Addr) (h:Heap):List (Addr×Obj):=fp.filterMap fun b=>(h.get? b).map fun o=>(b,o)
theorem JK {fp:List Addr} {h:Heap} {b:Addr} {o:Obj} (hb:b∈fp) (e:h.get? b=some o):(b,o)∈J3 fp h:=List.mem_filterMap.mpr ⟨b,hb,by rw [e];rfl⟩
theorem ZdC {fp:List Addr} {h:Heap} {p:Addr×Obj} (hp:p∈J3 fp h):p.1∈fp/\h.get? p.1=some p.2:=by
 obtain ⟨b,hb,e⟩:=List.mem_filterMap.mp hp
 cases q:h.get? b with
 |none=>rw [q] at e;cases e
 |some o=>
  rw [q] at e
  have e':(b,o)=p:=Option.some.inj e
  subst e'
  exact ⟨hb,q⟩
theorem Inv.pinned {Za:List (Addr×Obj)} {σ:St} {H:Hp} {s:Shared} {fp:List Addr} (I:Inv X Za σ H s) (hf:∀b∈fp,Zcu X Za H b) (ho:∀b∈fp,∃o,s.heap.get? b=some o/\∀v,o.data≠ .cell v):Inv X (Za++J3 fp s.heap) σ H s:=
 I.pins_of fun p hp=>(mem_append.mp hp).elim (fun z=>I.pin p (mem_append_right _ z)) fun z=>by
  obtain ⟨hb,e⟩:=ZdC z
  obtain ⟨f0,f1,f2,_⟩:=hf p.1 hb
  obtain ⟨o,e',d⟩:=ho p.1 hb
  rw [e] at e';cases e'
  exact ⟨e,f0,f1,f2,d⟩
theorem Inv.unpinned {Za pl:List (Addr×Obj)} {σ:St} {H:Hp} {s:Shared} (I:Inv X (Za++pl) σ H s):Inv X Za σ H s:=I.pins_of fun p hp=>I.pin p (mem_append_right _ (mem_append_left _ hp))
theorem Zgn {iter:Expr} {body:List Stmt} {wi:TI} {g:TG} {tb:TS} {pos:Pos} (hp:PassesOwn (model X.prog X.w) X.A X.env X.xe) (hc:X.calm=true) (hi:PI X tg iter wi) (hg:PG X tg g) (hb:PSs X body tb)
 (hs:∀x,foldedSetIterable iter X.env x=pure x:=by intro _;rfl):PS X (.For tg iter body [] pos) (ZAF wi g tb):=by
 intro Za s σ H D I h
 refine wpAny_For (thn (hi Za s σ H _ I h) fun v s1 h1=>thn h1 fun itv s2 h2=>?_) hs
 obtain ⟨it,fp,tn,J,H2,e,I2,T,st2,f2,W,⟨m0,w0⟩,turn⟩:=h2
 subst e
 have stat:∀{H':Hp},(∀b∈fp,H' b=none)->∀b∈fp,Zcu X Za H' b:=fun hn b hb=>⟨hn b hb,(f2 b hb).2⟩
 refine codeAny_forLoop_any (fun n s'=>∃i σ' H',Inv X Za σ' H' s'/\tn i s'.heap/\(∀b∈fp,H' b=none)/\W i n σ' H') ?_ m0 ⟨0,σ,H2,I2,st2,fun b hb=>(f2 b hb).1,w0⟩
 rintro n s3 ⟨i,σ3,H3,I3,st3,fr3,w3⟩
 rcases turn i n σ3 H3 w3 with ⟨stop,qn⟩|⟨go,N,hN,step⟩
 ·refine wpAny_passesOwn hp (thn (T.done X rfl rfl rfl hc i Za s3 σ3 H3 X.xe I3 (stat fr3) st3 stop) fun r s4 ⟨hr,I4⟩=>?_)
  subst hr
  exact wpAny_execs_nil ⟨σ3,H3,I4,qn⟩
 ·refine wpAny_passesOwn hp (thn (T.item X rfl rfl rfl hc i Za s3 σ3 H3 X.xe I3 (stat fr3) st3 go) fun r s4 ⟨u,hr,h4⟩=>?_)
  subst hr
  refine wpAny_passesOwn hp (thn h4 fun _ s5 ⟨x,H5,I5,r5,y5,st5,fr5⟩=>?_)
  have I5':=I5.pinned (stat fr5) (T.obj _ _ st5)
  refine wpAny_passesOwn hp (thn (hg _ s5 σ3 H5 x u _ I5' r5 (step x H5 y5)) fun _ s6 ⟨σ6,H6,I6,q6⟩=>?_)
  refine wpAny_passesOwn hp (thn (hb _ s6 σ6 H6 _ I6 q6) fun f s7 q7=>?_)
  have again:∀{σ7:St} {H7:Hp},Inv X (Za++J3 fp s5.heap) σ7 H7 s7->N σ7 H7->∃m,m<n/\∃i σ' H',Inv X Za σ' H' s7/\tn i s7.heap/\(∀b∈fp,H' b=none)/\W i m σ' H':=fun {σ7 H7} I7 n7=>by
   obtain ⟨m',hm,w7⟩:=hN σ7 H7 n7
   refine ⟨m',hm,i+1,σ7,H7,I7.unpinned,T.keep _ _ _ st5 fun b hb o e=>(I7.pin (b,o) (mem_append_right _ (mem_append_right _ (JK hb e)))).1,fun b hb=>?_,w7⟩
   obtain ⟨o,e,d⟩:=T.obj _ _ st5 b hb
   exact (I7.pin (b,o) (mem_append_right _ (mem_append_right _ (JK hb e)))).2.1
  cases f with
  |next=>obtain ⟨σ7,H7,I7,n7⟩:=q7;exact again I7 n7
  |cont=>obtain ⟨σ7,H7,I7,n7⟩:=q7;exact again I7 n7
  |brk=>obtain ⟨σ7,H7,I7,q7⟩:=q7;exact ⟨σ7,H7,I7.unpinned,q7⟩
  |ret v=>obtain ⟨x7,σ7,H7,I7,r7,q7⟩:=q7;exact ⟨x7,σ7,H7,I7.unpinned,r7,q7⟩
end
theorem Zpz {K:PySem.W.Frag} {a:Addr} {xs:List V} {g:TG} {tb:TS} {D:Zbw} {σ:St} {H:Hp} (Pv:Nat->St->Hp->Prop) (h0:Pv 0 σ H) (hl:∀i σ H,i<=xs.length->Pv i σ H->SqL K H a xs)
 (hs:∀i x σ H,xs[i]?=some x->Pv i σ H->g x σ H fun σ2 H2=>tb {D with nx:=Pv (i+1),ct:=Pv (i+1),bk:=D.nx} σ2 H2) (hd:∀σ H,Pv xs.length σ H->D.nx σ H):
 ∃W:Nat->Nat->St->Hp->Prop,(∃m,W 0 m σ H)/\∀i m σ H,W i m σ H->
  ((Itl K a).stop i H/\D.nx σ H)\/((Itl K a).go i H/\∃N:St->Hp->Prop,(∀σ' H',N σ' H'->∃m',m'<m/\W (i+1) m' σ' H')/\∀x H',(Itl K a).yld i H x H'->g x σ H' fun σ2 H2=>tb {D with nx:=N,ct:=N,bk:=D.nx} σ2 H2):=by
 refine ⟨fun i m σ H=>m=xs.length-i/\i<=xs.length/\Pv i σ H,⟨xs.length,by simp,Nat.zero_le _,h0⟩,?_⟩
 rintro i m σ H ⟨rfl,hi,p⟩
 have q:=hl i σ H hi p
 by_cases hlt:i<xs.length
 ·refine .inr ⟨⟨xs,xs[i],q,by simp [hlt]⟩,Pv (i+1),fun σ' H' p'=>⟨xs.length-(i+1),by omega,rfl,hlt,p'⟩,fun x H' y=>?_⟩
  obtain ⟨e,y⟩:=y
  subst e
  exact hs i x σ _ (y xs q) p
 ·have e:i=xs.length:=by omega
  subst e
  exact .inl ⟨⟨xs,q,Nat.le_refl _⟩,hd σ H p⟩
theorem Zqn {K:PySem.W.Frag} {a:Addr} {xs:List V} {g:TG} {tb:TS} {D:Zbw} {σ:St} {H:Hp} (Pv:Nat->St->Hp->Prop) (h0:Pv 0 σ H) (hl:∀i σ H,i<=xs.length->Pv i σ H->SqT K H a xs)
 (hs:∀i x σ H,xs[i]?=some x->Pv i σ H->g x σ H fun σ2 H2=>tb {D with nx:=Pv (i+1),ct:=Pv (i+1),bk:=D.nx} σ2 H2) (hd:∀σ H,Pv xs.length σ H->D.nx σ H):
 ∃W:Nat->Nat->St->Hp->Prop,(∃m,W 0 m σ H)/\∀i m σ H,W i m σ H->
  ((Itt K a).stop i H/\D.nx σ H)\/((Itt K a).go i H/\∃N:St->Hp->Prop,(∀σ' H',N σ' H'->∃m',m'<m/\W (i+1) m' σ' H')/\∀x H',(Itt K a).yld i H x H'->g x σ H' fun σ2 H2=>tb {D with nx:=N,ct:=N,bk:=D.nx} σ2 H2):=by
 refine ⟨fun i m σ H=>m=xs.length-i/\i<=xs.length/\Pv i σ H,⟨xs.length,by simp,Nat.zero_le _,h0⟩,?_⟩
 rintro i m σ H ⟨rfl,hi,p⟩
 have q:=hl i σ H hi p
 by_cases hlt:i<xs.length
 ·refine .inr ⟨⟨xs,xs[i],q,by simp [hlt]⟩,Pv (i+1),fun σ' H' p'=>⟨xs.length-(i+1),by omega,rfl,hlt,p'⟩,fun x H' y=>?_⟩
  obtain ⟨e,y⟩:=y
  subst e
  exact hs i x σ _ (y xs q) p
 ·have e:i=xs.length:=by omega
  subst e
  exact .inl ⟨⟨xs,q,Nat.le_refl _⟩,hd σ H p⟩
theorem ZfQ {lo:Int} {n:Nat} {g:TG} {tb:TS} {D:Zbw} {σ:St} {H:Hp} (Pv:Nat->St->Hp->Prop) (h0:Pv 0 σ H)
 (hs:∀i σ H,i<n->Pv i σ H->g (.int (lo+i)) σ H fun σ2 H2=>tb {D with nx:=Pv (i+1),ct:=Pv (i+1),bk:=D.nx} σ2 H2) (hd:∀σ H,Pv n σ H->D.nx σ H):
 ∃W:Nat->Nat->St->Hp->Prop,(∃m,W 0 m σ H)/\∀i m σ H,W i m σ H->
  ((Itr lo n).stop i H/\D.nx σ H)\/((Itr lo n).go i H/\∃N:St->Hp->Prop,(∀σ' H',N σ' H'->∃m',m'<m/\W (i+1) m' σ' H')/\∀x H',(Itr lo n).yld i H x H'->g x σ H' fun σ2 H2=>tb {D with nx:=N,ct:=N,bk:=D.nx} σ2 H2):=by
 refine ⟨fun i m σ H=>m=n-i/\i<=n/\Pv i σ H,⟨n,by simp,Nat.zero_le _,h0⟩,?_⟩
 rintro i m σ H ⟨rfl,hi,p⟩
 by_cases hlt:i<n
 ·refine .inr ⟨hlt,Pv (i+1),fun σ' H' p'=>⟨n-(i+1),by omega,rfl,hlt,p'⟩,fun x H' y=>?_⟩
  obtain ⟨e,y⟩:=y
  subst e y
  exact hs i σ _ hlt p
 ·have e:i=n:=by omega
  subst e
  exact .inl ⟨Nat.le_refl _,hd σ H p⟩
abbrev R2:=V->V->Hp->VK->Prop
def OpR (X:Cx) (f:Value->Value->Sem Value) (r:R2):Prop:=
 ∀(Za:List (Addr×Obj)) (s:Shared) (σ:St) (H:Hp) (x y:V) (v u:Value) (Q:VK),Inv X Za σ H s->Z2 x v->Z2 y u->r x y H Q->
  wpAny (model X.prog X.w) X.A (f v u) (EP X Za σ Q) X.xe s
def UnR (X:Cx) (f:Value->Sem Value) (r:V->Hp->VK->Prop):Prop:=
 ∀(Za:List (Addr×Obj)) (s:Shared) (σ:St) (H:Hp) (x:V) (v:Value) (Q:VK),Inv X Za σ H s->Z2 x v->r x H Q->
  wpAny (model X.prog X.w) X.A (f v) (EP X Za σ Q) X.xe s
def Jc (X:Cx) (f:Value) (r:List V->Hp->VK->Prop):Prop:=
 ∀(Za:List (Addr×Obj)) (s:Shared) (σ:St) (H:Hp) (xs:List V) (us:List Value) (Q:VK),Inv X Za σ H s->ZD xs us->r xs H Q->
  wpAny (model X.prog X.w) X.A (call f us) (EP X Za σ Q) X.xe s
def ZAD (X:Cx) (r:V->Hp->(Bool->Hp->Prop)->Prop):Prop:=
 ∀(Za:List (Addr×Obj)) (s:Shared) (σ:St) (H:Hp) (x:V) (v:Value) (Q:Bool->Hp->Prop),Inv X Za σ H s->Z2 x v->r x H Q->
  wpAny (model X.prog X.w) X.A (truthy v) (TP X Za σ Q) X.xe s
def tOp (r:R2) (ta tb:TE):TE:=fun σ H Q=>ta σ H fun x H1=>tb σ H1 fun y H2=>r x y H2 Q
def tUn (r:V->Hp->VK->Prop) (ta:TE):TE:=fun σ H Q=>ta σ H fun x H1=>r x H1 Q
def rI (C:Int->Int->Prop) (g:Int->Int->V):R2:=fun x y H Q=>∃i j,x=.int i/\y=.int j/\C i j/\Q (g i j) H
def rI0 (g:Int->Int->V):R2:=fun x y H Q=>∃i j,x=.int i/\y=.int j/\Q (g i j) H
def rU (g:Int->V):V->Hp->VK->Prop:=fun x H Q=>∃i,x=.int i/\Q (g i) H
section
variable {X:Cx} {a b c:Expr} {ta tb tc:TE} {pos:Pos}
theorem Zs9 (ha:PE X a ta) (hb:PE X b tb) {Za:List (Addr×Obj)} {s:Shared} {σ:St} {H:Hp} {R:V->V->Hp->Prop} (I:Inv X Za σ H s)
 (h:ta σ H fun x H1=>tb σ H1 fun y H2=>R x y H2) {Q:Value->Shared->Prop} {f:Value->Value->Sem Value}
 (hf:∀v u s2 x y H2,Inv X Za σ H2 s2->Z2 x v->Z2 y u->R x y H2->wpAny (model X.prog X.w) X.A (f v u) Q X.xe s2):
 wpAny (model X.prog X.w) X.A (eval a X.env) (fun v s₁=>wpAny (model X.prog X.w) X.A (eval b X.env) (fun u s₂=>wpAny (model X.prog X.w) X.A (f v u) Q X.xe s₂) X.xe s₁) X.xe s:=by
 refine thn (ha Za s σ H _ I h) fun v s1 ⟨x,H1,I1,r1,q1⟩=>?_
 refine thn (hb Za s1 σ H1 _ I1 q1) fun u s2 ⟨y,H2,I2,r2,q2⟩=>?_
 exact hf v u s2 x y H2 I2 r1 r2 q2
theorem Zv {op:Operator} {r:R2} (ho:OpR X (binaryOp op) r) (ha:PE X a ta) (hb:PE X b tb):PE X (.BinOp a op b pos) (tOp r ta tb):=by
 intro Za s σ H Q I h
 exact wpAny_BinOp (Zs9 ha hb I h fun v u s2 x y H2 I2 rx ry q=>ho Za s2 σ H2 x y v u Q I2 rx ry q)
theorem ZmA {op:UnaryOp} {r:V->Hp->VK->Prop} (ho:UnR X (unaryOp op) r) (ha:PE X a ta):PE X (.UnaryOp op a pos) (tUn r ta):=by
 intro Za s σ H Q I h
 exact UnaryOp_ (thn (ha Za s σ H _ I h) fun v s1 ⟨x,H1,I1,r1,q1⟩=>ho Za s1 σ H1 x v Q I1 r1 q1)
theorem opI {f:Value->Value->Sem Value} {C:Int->Int->Prop} {g:Int->Int->Int}
 (rule:∀(i j:Int) (t u:Tok) (s:Shared) (Q:Value->Shared->Prop) (E:Value->Shared->Prop),C i j->Q (.int (g i j) s.toks) {s with toks:=s.toks+1}->wpAny (model X.prog X.w) X.A (f (.int i t) (.int j u)) Q E s):
 OpR X f (rI C fun i j=>.int (g i j)):=by
 intro Za s σ H x y v u Q I rx ry h
 obtain ⟨i,j,rfl,rfl,hc,q⟩:=h
 obtain ⟨t,rfl⟩:=rx
 obtain ⟨t',rfl⟩:=ry
 exact rule i j t t' s _ _ hc ⟨.int (g i j),H,I.tok _,⟨_,rfl⟩,q⟩
theorem ZtQ {f:Value->Value->Sem Value} {g:Int->Int->Int}
 (rule:∀(i j:Int) (t u:Tok) (s:Shared) (Q:Value->Shared->Prop) (E:Value->Shared->Prop),Q (.int (g i j) s.toks) {s with toks:=s.toks+1}->wpAny (model X.prog X.w) X.A (f (.int i t) (.int j u)) Q E s):
 OpR X f (rI0 fun i j=>.int (g i j)):=by
 intro Za s σ H x y v u Q I rx ry h
 obtain ⟨i,j,rfl,rfl,q⟩:=h
 obtain ⟨t,rfl⟩:=rx
 obtain ⟨t',rfl⟩:=ry
 exact rule i j t t' s _ _ ⟨.int (g i j),H,I.tok _,⟨_,rfl⟩,q⟩
theorem Ztj {f:Value->Value->Sem Value} {g:Int->Int->Bool}
 (rule:∀(i j:Int) (t u:Tok) (s:Shared) (Q:Value->Shared->Prop) (E:Value->Shared->Prop),Q (.bool (g i j)) s->wpAny (model X.prog X.w) X.A (f (.int i t) (.int j u)) Q E s):
 OpR X f (rI0 fun i j=>.bl (g i j)):=by
 intro Za s σ H x y v u Q I rx ry h
 obtain ⟨i,j,rfl,rfl,q⟩:=h
 obtain ⟨t,rfl⟩:=rx
 obtain ⟨t',rfl⟩:=ry
 exact rule i j t t' s _ _ ⟨.bl (g i j),H,I,rfl,q⟩
def ZAh (i j:Int):Prop:=0<j/\j<1073741824
def ZAi (i j:Int):Prop:=0<=j/\j<=1000000/\i.natAbs<2 ^ 64
def Zqj (i j:Int):Prop:=(-(2 ^ 64)<i/\i<2 ^ 64)\/(-(2 ^ 64)<j/\j<2 ^ 64)
theorem Zqj.ok {i j:Int} (h:Zqj i j):IntMulOk i j:=by
 rcases h with ⟨h1,h2⟩|⟨h1,h2⟩
 ·exact .of_left (intBits_le_64 h1 h2)
 ·exact .of_right (intBits_le_64 h1 h2)
theorem ZrY:OpR X (binaryOp .Add) (rI0 fun i j=>.int (i+j)):=ZtQ fun _ _ _ _ _ _ _ q=>add_int q
theorem Ztf:OpR X (binaryOp .Sub) (rI0 fun i j=>.int (i-j)):=ZtQ fun _ _ _ _ _ _ _ q=>sub_int q
theorem Zxc:OpR X (binaryOp .Mult) (rI Zqj fun i j=>.int (i * j)):=opI fun _ _ _ _ _ _ _ hc q=>mul_int q hc.ok
theorem Zql:OpR X (binaryOp .FloorDiv) (rI ZAh fun i j=>.int (i/j)):=opI fun i j _ _ _ _ _ hc q=>by
 have h1:(0:Int)<j:=hc.1
 have h2:j<1073741824:=hc.2
 exact floordiv_int (by omega) (by rw [Int.fdiv_eq_ediv_of_nonneg i (by omega)];exact q) (.inl (PyProof.noPylong_small (by omega)))
theorem Zvj:OpR X (binaryOp .Mod) (rI (fun _ j=>0<j) fun i j=>.int (i%j)):=opI fun i j _ _ _ _ _ hc q=>by
 have h1:(0:Int)<j:=hc
 exact mod_int' (by omega) (by rw [Int.fmod_eq_emod_of_nonneg i (by omega)];exact q)
theorem Zs0:OpR X (binaryOp .Pow) (rI ZAi fun i j=>.int (i ^ j.toNat)):=opI fun _ _ _ _ _ _ _ hc q=>pow_int_small hc.1 hc.2.1 hc.2.2 q
theorem ZqC:OpR X (inplaceOp .Add) (rI0 fun i j=>.int (i+j)):=ZtQ fun _ _ _ _ _ _ _ q=>iadd_int q
theorem unI {f:Value->Sem Value} {g:Int->Int}
 (rule:∀(i:Int) (t:Tok) (s:Shared) (Q:Value->Shared->Prop) (E:Value->Shared->Prop),Q (.int (g i) s.toks) {s with toks:=s.toks+1}->wpAny (model X.prog X.w) X.A (f (.int i t)) Q E s):
 UnR X f (rU fun i=>.int (g i)):=by
 intro Za s σ H x v Q I rx h
 obtain ⟨i,rfl,q⟩:=h
 obtain ⟨t,rfl⟩:=rx
 exact rule i t s _ _ ⟨.int (g i),H,I.tok _,⟨_,rfl⟩,q⟩
theorem Zut:UnR X (unaryOp .USub) (rU fun i=>.int (-i)):=unI fun _ _ _ _ _ q=>neg_int q
end
def Zso:V->V->Bool
 | .non,.non=>true| .non,.int _=>true| .int _,.non=>true| .non,.bl _=>true| .bl _,.non=>true| .non,.str _=>true| .str _,.non=>true
 | .int _,.int _=>true| .bl _,.bl _=>true| .str _,.str _=>true| .byt _,.byt _=>true
 | .int _,.str _=>true| .str _,.int _=>true| .bl _,.str _=>true| .str _,.bl _=>true
 |_,_=>false
def rEq:R2:=fun x y H Q=>Zso x y=true/\Q (.bl (decide (x=y))) H
def rNe:R2:=fun x y H Q=>Zso x y=true/\Q (.bl (!decide (x=y))) H
theorem ZjN {i j:Int}:decide (V.int i=V.int j)=(i==j):=by
 rw [Bool.eq_iff_iff]
 simp
theorem Zo3 {i j:Bool}:decide (V.bl i=V.bl j)=(i==j):=by
 rw [Bool.eq_iff_iff]
 simp
theorem ZjU {i j:Str}:decide (V.str i=V.str j)=(i==j):=by
 rw [Bool.eq_iff_iff]
 simp
theorem Zj7 {i j:Array UInt8}:decide (V.byt i=V.byt j)=(i.toList==j.toList):=by
 rw [Bool.eq_iff_iff]
 cases i
 cases j
 simp
section
variable {X:Cx} {a b c:Expr} {ta tb tc:TE} {pos:Pos}
theorem ZV {Za:List (Addr×Obj)} {σ:St} {H:Hp} {s:Shared} {Q:VK} {k k':Bool} (I:Inv X Za σ H s) (q:Q (.bl k) H) (e:k=k'):EP X Za σ Q (.bool k') s:=by
 subst e
 exact ⟨.bl k,H,I,rfl,q⟩
theorem Zyd:OpR X (compareOp .Eq) rEq:=by
 intro Za s σ H x y v u Q I rx ry h
 obtain ⟨hs,q⟩:=h
 cases x with
 |non=>
  cases rx
  cases y with
  |non=>cases ry;exact PySem.EqNone.eq_none_none (ZV I q (by simp))
  |bl j=>cases ry;exact PySem.EqNone.eq_none_bool (ZV I q (by simp))
  |int j=>obtain ⟨t',rfl⟩:=ry;exact PySem.EqNone.eq_none_int (ZV I q (by simp))
  |str j=>obtain ⟨t',rfl⟩:=ry;exact PySem.EqNone.eq_none_str (ZV I q (by simp))
  |_=>exact absurd (show false=true from hs) Bool.false_ne_true
 |bl i=>
  cases rx
  cases y with
  |non=>cases ry;exact PySem.EqNone.eq_bool_none (ZV I q (by simp))
  |bl j=>cases ry;exact eq_bool (ZV I q Zo3)
  |str j=>obtain ⟨t',rfl⟩:=ry;exact PySem.EqMixed.eq_bool_str (ZV I q (by simp))
  |_=>exact absurd (show false=true from hs) Bool.false_ne_true
 |int i=>
  obtain ⟨t,rfl⟩:=rx
  cases y with
  |non=>cases ry;exact PySem.EqNone.eq_int_none (ZV I q (by simp))
  |int j=>obtain ⟨t',rfl⟩:=ry;exact eq_int (ZV I q ZjN)
  |str j=>obtain ⟨t',rfl⟩:=ry;exact PySem.EqMixed.eq_int_str (ZV I q (by simp))
  |_=>exact absurd (show false=true from hs) Bool.false_ne_true
 |str i=>
  obtain ⟨t,rfl⟩:=rx
  cases y with
  |non=>cases ry;exact PySem.EqNone.eq_str_none (ZV I q (by simp))
  |bl j=>cases ry;exact PySem.EqMixed.eq_str_bool (ZV I q (by simp))
  |int j=>obtain ⟨t',rfl⟩:=ry;exact PySem.EqMixed.eq_str_int (ZV I q (by simp))
  |str j=>obtain ⟨t',rfl⟩:=ry;exact eq_str (ZV I q ZjU)
  |_=>exact absurd (show false=true from hs) Bool.false_ne_true
 |byt i=>
  obtain ⟨t,rfl⟩:=rx
  cases y with
  |byt j=>obtain ⟨t',rfl⟩:=ry;exact PySem.W.eq_bytes (ZV I q Zj7)
  |_=>exact absurd (show false=true from hs) Bool.false_ne_true
 |_=>cases y<;>exact absurd (show false=true from hs) Bool.false_ne_true
theorem ZxW:OpR X (compareOp .NotEq) rNe:=by
 intro Za s σ H x y v u Q I rx ry h
 obtain ⟨hs,q⟩:=h
 cases x with
 |non=>
  cases rx
  cases y with
  |non=>cases ry;exact PySem.EqNone.ne_none_none (ZV I q (by simp))
  |bl j=>cases ry;exact PySem.EqNone.ne_none_bool (ZV I q (by simp))
  |int j=>obtain ⟨t',rfl⟩:=ry;exact PySem.EqNone.ne_none_int (ZV I q (by simp))
  |str j=>obtain ⟨t',rfl⟩:=ry;exact PySem.EqNone.ne_none_str (ZV I q (by simp))
  |_=>exact absurd (show false=true from hs) Bool.false_ne_true
 |bl i=>
  cases rx
  cases y with
  |non=>cases ry;exact PySem.EqNone.ne_bool_none (ZV I q (by simp))
  |bl j=>cases ry;exact ne_bool (ZV I q (congrArg not Zo3))
  |str j=>obtain ⟨t',rfl⟩:=ry;exact PySem.EqMixed.ne_bool_str (ZV I q (by simp))
  |_=>exact absurd (show false=true from hs) Bool.false_ne_true
 |int i=>
  obtain ⟨t,rfl⟩:=rx
  cases y with
  |non=>cases ry;exact PySem.EqNone.ne_int_none (ZV I q (by simp))
  |int j=>obtain ⟨t',rfl⟩:=ry;exact ne_int (ZV I q (congrArg not ZjN))
  |str j=>obtain ⟨t',rfl⟩:=ry;exact PySem.EqMixed.ne_int_str (ZV I q (by simp))
  |_=>exact absurd (show false=true from hs) Bool.false_ne_true
 |str i=>
  obtain ⟨t,rfl⟩:=rx
  cases y with
  |non=>cases ry;exact PySem.EqNone.ne_str_none (ZV I q (by simp))
  |bl j=>cases ry;exact PySem.EqMixed.ne_str_bool (ZV I q (by simp))
  |int j=>obtain ⟨t',rfl⟩:=ry;exact PySem.EqMixed.ne_str_int (ZV I q (by simp))
  |str j=>obtain ⟨t',rfl⟩:=ry;exact ne_str (ZV I q (congrArg not ZjU))
  |_=>exact absurd (show false=true from hs) Bool.false_ne_true
 |byt i=>
  obtain ⟨t,rfl⟩:=rx
  cases y with
  |byt j=>obtain ⟨t',rfl⟩:=ry;exact PySem.W.ne_bytes (ZV I q (congrArg not Zj7))
  |_=>exact absurd (show false=true from hs) Bool.false_ne_true
 |_=>cases y<;>exact absurd (show false=true from hs) Bool.false_ne_true
theorem ZzX:OpR X (compareOp .Lt) (rI0 fun i j=>.bl (decide (i<j))):=Ztj fun _ _ _ _ _ _ _ q=>lt_int q
theorem Zyv:OpR X (compareOp .LtE) (rI0 fun i j=>.bl (decide (i<=j))):=Ztj fun _ _ _ _ _ _ _ q=>le_int q
theorem ZzS:OpR X (compareOp .Gt) (rI0 fun i j=>.bl (decide (j<i))):=Ztj fun _ _ _ _ _ _ _ q=>gt_int q
theorem ZkW:OpR X (compareOp .Lt) (fun x y H Q=>∃i j,x=.str i/\y=.str j/\Q (.bl (decide (i.cps.toList<j.cps.toList))) H):=by
 intro Za s σ H x y v u Q I rx ry h
 obtain ⟨i,j,rfl,rfl,q⟩:=h
 obtain ⟨t,rfl⟩:=rx
 obtain ⟨t',rfl⟩:=ry
 exact lt_str (ZV I q rfl)
theorem Zxw:OpR X (compareOp .Is) (fun x y H Q=>y=.non/\Q (.bl (decide (x=.non))) H):=by
 intro Za s σ H x y v u Q I rx ry h
 obtain ⟨rfl,q⟩:=h
 cases ry
 refine is_none_gen (ZV I q ?_)
 cases x<;>first
  |(cases rx;rfl)
  |(obtain ⟨t,rfl⟩:=rx;rfl)
theorem Zmb (b:Expr) {op:CmpOp} (h:op≠ .In:=by decide) (h2:op≠ .NotIn:=by decide):behindInMarks op b=false:=by
 have e1:(op==CmpOp.In)=false:=by cases op<;>first|rfl|exact absurd rfl h
 have e2:(op==CmpOp.NotIn)=false:=by cases op<;>first|rfl|exact absurd rfl h2
 cases b<;>simp [behindInMarks,e1,e2]
theorem ZpN {op:CmpOp} {r:R2} (ho:OpR X (compareOp op) r) (ha:PE X a ta) (hb:PE X b tb) (hm:behindInMarks op b=false):PE X (.Compare a [op] [b] pos) (tOp r ta tb):=by
 intro Za s σ H Q I h
 exact wpAny_Compare1 (Zs9 ha hb I h fun v u s2 x y H2 I2 rx ry q=>ho Za s2 σ H2 x y v u Q I2 rx ry q) hm
def Zzj (K:PySem.W.Frag) (x:V) (H:Hp) (k:Bool):Prop:=
 match x with
 | .non=>k=false
 | .bl b=>k=b
 | .int i=>k=(i !=0)
 | .str y=>y.length<=sizeLine/\k=((y.length:Int) !=0)
 | .byt y=>y.size<=sizeLine/\k=((y.size:Int) !=0)
 | .ref p=>(∃xs,SqL K H p xs/\k= !xs.isEmpty)\/(∃xs,SqT K H p xs/\k= !xs.isEmpty)\/∃kvs,H p=some (.dK kvs)/\k= !kvs.isEmpty
 |_=>False
theorem Zi6 {κ:Type} {kvs:List (κ×V)} {vs:List (κ×Value)} (r:KV kvs vs):(!vs.isEmpty)= !kvs.isEmpty:=by
 cases r<;>rfl
theorem Zez {xs:List V} {its:List Value} (r:ZD xs its):(!its.toArray.isEmpty)= !xs.isEmpty:=by
 cases r<;>simp
theorem Zdt:(sizeLine:Nat)<2 ^ 63:=by rw [sizeLine_eq];decide
theorem ZsC:ZAD X (fun x H Q=>∃k,Zzj X.K x H k/\Q k H):=by
 intro Za s σ H x v Q I rx h
 obtain ⟨k,e,q⟩:=h
 have hl:=Zdt
 have hs:sizeLine=16777216:=sizeLine_eq
 cases x with
 |non=>
  cases rx
  have e':k=false:=e
  subst e'
  exact truthy_none ⟨H,I,q⟩
 |bl b=>
  cases rx
  have e':k=b:=e
  subst e'
  exact wpAny_truthy_bool ⟨H,I,q⟩
 |int i=>
  obtain ⟨t,rfl⟩:=rx
  have e':k=(i !=0):=e
  subst e'
  exact PySem.P.truthy_int ⟨H,I,q⟩
 |str y=>
  obtain ⟨t,rfl⟩:=rx
  obtain ⟨hy,e'⟩:y.length<=sizeLine/\k=((y.length:Int) !=0):=e
  subst e'
  exact PySem.P.truthy_str (by omega) ⟨H,I.tok _,q⟩
 |byt y=>
  obtain ⟨t,rfl⟩:=rx
  obtain ⟨hy,e'⟩:y.size<=sizeLine/\k=((y.size:Int) !=0):=e
  subst e'
  exact PySem.W.truthy_bytes (by omega) ⟨H,I.tok _,q⟩
 |ref p=>
  cases rx
  have e':(∃xs,SqL X.K H p xs/\k= !xs.isEmpty)\/(∃xs,SqT X.K H p xs/\k= !xs.isEmpty)\/∃kvs,H p=some (.dK kvs)/\k= !kvs.isEmpty:=e
  rcases e' with ⟨xs,hx,e'⟩|⟨xs,hx,e'⟩|⟨kvs,hx,e'⟩
  ·subst e'
   obtain ⟨its,r,pl,hz⟩:=I.list hx
   have hlen:=r.length
   exact wpAny_truthy_list pl.isList (by simp only [size_toArray];omega) ⟨H,I.tok _,by rw [Zez r];exact q⟩
  ·subst e'
   obtain ⟨its,r,pl,hz⟩:=I.tuple hx
   have hlen:=r.length
   exact truthy_tuple pl (by simp only [size_toArray];omega) ⟨H,I.tok _,by rw [Zez r];exact q⟩
  ·subst e'
   obtain ⟨hz,hS,vs,r,m⟩:kvs.length<=sizeLine/\(p==sysModules)=false/\∃vs,KV kvs vs/\s.heap.DictOf (z4 X.prog X.w) p vs:=I.hok p _ hx
   have hlen:kvs.length=vs.length:=Paired.length r
   exact wpAny_truthy_dict hS m (by omega) ⟨H,I.tok _,by rw [Zi6 r];exact q⟩
 |_=>exact (show False from e).elim
theorem Zin:OpR X (binaryOp .Add) (fun x y H Q=>∃i j,x=.str i/\y=.str j/\i.length+j.length<=sizeLine/\Q (.str (i++j)) H):=by
 intro Za s σ H x y v u Q I rx ry h
 obtain ⟨i,j,rfl,rfl,hz,q⟩:=h
 obtain ⟨t,rfl⟩:=rx
 obtain ⟨t',rfl⟩:=ry
 exact add_str (fun t' tk=>⟨.str (i++j),H,I.tok _,⟨_,rfl⟩,q⟩) hz
theorem ZhO:OpR X (inplaceOp .Add) (fun x y H Q=>∃i j,x=.str i/\y=.str j/\i.length+j.length<=sizeLine/\Q (.str (i++j)) H):=by
 intro Za s σ H x y v u Q I rx ry h
 obtain ⟨i,j,rfl,rfl,hz,q⟩:=h
 obtain ⟨t,rfl⟩:=rx
 obtain ⟨t',rfl⟩:=ry
 exact iadd_str (fun t' tk=>⟨.str (i++j),H,I.tok _,⟨_,rfl⟩,q⟩) hz
theorem JA {x:V} {us:List Value} (r:ZD [x] us):∃u,us=[u]/\Z2 x u:=by
 cases r with
 |cons r1 r2=>cases r2;exact ⟨_,rfl,r1⟩
theorem ZdL {x y:V} {us:List Value} (r:ZD [x,y] us):∃u w',us=[u,w']/\Z2 x u/\Z2 y w':=by
 cases r with
 |cons r1 r2=>
  cases r2 with
  |cons r3 r4=>cases r4;exact ⟨_,_,rfl,r1,r3⟩
end
structure ZiX (h:Heap) (x dx C:Addr) (mA:Str->Option Value):Prop where
 obj:h.get? x=some (instObj C dx)
 ns:h.Ns1 dx mA
 ne:dx≠x
theorem Zkv {h:Heap} {dx:Addr} {mA:Str->Option Value} (n:h.Ns1 dx mA):∃od,h.get? dx=some od/\∀name,lookIn name od=some (mA name):=by
 obtain ⟨o,es,ep,ho,hd,hk,_,hm⟩:=n
 refine ⟨o,ho,fun name=>?_⟩
 have e:=hm name
 unfold nsFind findBy at e
 rw [<-Array.find?_toList] at e
 unfold lookIn
 rw [hd]
 dsimp only
 split
 ·rename_i y q
  rw [q] at e
  exact congrArg some e
 ·rename_i q
  rw [q] at e
  have a:es.toList.any (·.refKey)=false:=by
   rw [List.any_eq_false]
   intro y hy
   obtain ⟨z,t,hkey⟩:=hk y (Array.mem_toList_iff.mp hy)
   simp [DictEntry.refKey,hkey]
  have a':¬es.toList.any (·.refKey)=true:=by rw [a];exact Bool.false_ne_true
  rw [if_neg a']
  exact congrArg some e
theorem ZiX.look {h:Heap} {x dx C:Addr} {mA:Str->Option Value} (I:ZiX h x dx C mA):∃od,InstAt h x (instObj C dx) C (some od)/\∀name,lookIn name od=some (mA name):=
 let ⟨od,ho,hl⟩:=Zkv I.ns
 ⟨od,⟨I.obj,rfl,rfl,ho⟩,hl⟩
section
variable {prog:Program} {w:World} {A:Around} {E:Value->Shared->Prop} {s:Shared} {K:PySem.W.Frag} {x dx C f:Addr} {mA:Str->Option Value} {name:Str} {v:Value}
theorem ZpQ {expr:Bool} {Q:Value->Shared->Prop} (X:K.In s.heap) (I:ZiX s.heap x dx C mA) (hg:plainGet K C name=true) (hh:hasDictIn K C=true)
 (ha:findIn K (.ref C) name=some none) (hv:mA name=some v) (hv':handedIn v=true) (h:Q v {s with toks:=s.toks+1}):
 wpAny (model prog w) A (getAttr (.ref x) name expr) Q E s:=by
 obtain ⟨od,J,hl⟩:=I.look
 exact PySem.W.get_value X J (plainGet_of hg).1 (PySem.W.findObj_own hh ha rfl (by rw [hl,hv])) hv' h
theorem ZlG {pl:Sem Bool} {Q:Value×List Value->Shared->Prop} (X:K.In s.heap) (I:ZiX s.heap x dx C mA) (hg:plainGet K C name=true)
 (hf:findIn K (.ref C) name=some (some (.ref f))) (ht:isFn K (.ref f)=true) (hv:mA name=none) (h:Q (.ref f,[.ref x]) s):
 wpAny (model prog w) A (getMethod (.ref x) name pl) Q E s:=by
 obtain ⟨od,J,hl⟩:=I.look
 exact PySem.W.method_fn X J (plainGet_of hg).1 (plainGet_of hg).2 hf (beq_iff_eq.mp ht) (by show (lookIn name od).map (·.isSome)=some false;rw [hl,hv];rfl) h
theorem ZpD {ns:List Str} {Q:Unit->Shared->Prop} (X:K.In s.heap) (I:ZiX s.heap x dx C mA)
 (hs:findIn K (.ref C) "__setattr__"=some (some (.builtin "object.__setattr__"))) (hp:plainOver K C=true) (ht:takerIn K C name=some none) (hh:hasDictIn K C=true)
 (hw:PySem.Within mA ns) (hsz:ns.length<=sizeLine)
 (h:∀h',ZiX h' x dx C (fun y=>if y=name then some v else mA y)->Heap.SameBut dx s.heap h'->Q () {s with heap:=h',toks:=s.toks+2}):
 wpAny (model prog w) A (setAttr (.ref x) name v) Q E s:=by
 obtain ⟨od,J,hl⟩:=I.look
 refine PySem.W.set_plain X J hs (PySem.W.osa_open (s:= {s with toks:=s.toks+1}) (r:=none) X J hp ht fun b=>?_)
 obtain ⟨cd,hc,hd'⟩:=PySem.W.any_some hh
 have hx:s.heap.get? x=some ⟨.ref C,some dx,.plain,#[]⟩:=I.obj
 refine wpAny_bind (wpAny_pure (wpAny_bind (wpAny_bind (wpAny_loadPart hx (wpAny_bind (PySem.W.Looks.here (s:= {s with toks:=s.toks+1}) (PySem.W.looks_clsIn X hc) ?_))))))
 rw [hd']
 refine wpAny_pure (a:=some dx) (wpAny_bind (wpAny_pure (wpAny_bind ?_)))
 refine wpAny_nsSet1 (s:= {s with toks:=s.toks+1}) I.ns fun h' hn2 hs2=>?_
 obtain ⟨oD,esD,epD,hoD,hdD,hcD⟩:=hn2.count (PySem.Within.cons name v hw)
 refine wpAny_bind (wpAny_lookBehind hoD (by rw [hdD];exact pastItsLine_dict (Nat.le_trans hcD (by rw [length_cons];omega))) ?_)
 exact wpAny_pure (h _ ⟨(hs2.2 _ (Ne.symm I.ne)).trans I.obj,hn2,I.ne⟩ hs2)
theorem Zhn {R:Result->Shared->Prop} {vs:List Value} {kw:List (Str×Value)} (X:K.In s.heap) (hm:makesIn K C=true)
 (hi:findIn K (.ref C) "__init__"=some (some (.ref f))) (hf:typeIn K (.ref f)=some (.type "function"))
 (h:codeAny (model prog w) (A.under (.builtin "type.__call__" ⟨.ref C::vs,kw⟩)) (.call (.ref f) ⟨.ref (s.heap.objs.size+1)::vs,kw⟩) (PySem.W.InitBack (s.heap.objs.size+1) R)
  {s with heap:=(s.heap.push emptyDict).push (instObj C s.heap.objs.size)}):
 codeAny (model prog w) A (.call (.ref C) ⟨vs,kw⟩) R s:=by
 obtain ⟨hh,g,d,t,os⟩:=s
 exact PySem.W.make_core (PySem.W.makes_of X hm) (looks_findIn X hi) (fun self=>PySem.W.bind_fn X self hf) (.inl rfl) h
end
def Y6 (f:Str) (v:V):List (Str×V)->List (Str×V)
 |[]=>[(f,v)]
 |(g,x)::r=>if g=f then (g,v)::r else (g,x)::Y6 f v r
theorem ZdV (f g:Str) (v:V):∀fs:List (Str×V),(Y6 f v fs).lookup g=if g=f then some v else fs.lookup g
 |[]=>by
  show List.lookup g [(f,v)]=_
  by_cases h:g=f
  ·have hb:(g==f)=true:=beq_iff_eq.mpr h
   simp only [List.lookup,hb,if_pos h]
  ·have hb:(g==f)=false:=beq_eq_false_iff_ne.mpr h
   simp only [List.lookup,hb,if_neg h]
 |(k,x)::r=>by
  have ih:=ZdV f g v r
  rw [show Y6 f v ((k,x)::r)=(if k=f then (k,v)::r else (k,x)::Y6 f v r) from rfl]
  by_cases hk:k=f
  ·rw [if_pos hk]
   by_cases h:g=k
   ·have hb:(g==k)=true:=beq_iff_eq.mpr h
    simp only [List.lookup,hb,if_pos (h.trans hk)]
   ·have hb:(g==k)=false:=beq_eq_false_iff_ne.mpr h
    simp only [List.lookup,hb,if_neg (fun e:g=f=>h (e.trans hk.symm))]
  ·rw [if_neg hk]
   by_cases h:g=k
   ·have hb:(g==k)=true:=beq_iff_eq.mpr h
    simp only [List.lookup,hb,if_neg (fun e:g=f=>hk (h.symm.trans e))]
   ·have hb:(g==k)=false:=beq_eq_false_iff_ne.mpr h
    simp only [List.lookup,hb]
    exact ih
theorem ZdI (f:Str) (v:V):∀fs:List (Str×V),f∈(Y6 f v fs).map (·.1)/\∀g,g∈fs.map (·.1)->g∈(Y6 f v fs).map (·.1)
 |[]=>⟨by simp [Y6],fun g h=>by simp at h⟩
 |(k,x)::r=>by
  obtain ⟨i1,i2⟩:=ZdI f v r
  rw [show Y6 f v ((k,x)::r)=(if k=f then (k,v)::r else (k,x)::Y6 f v r) from rfl]
  by_cases hk:k=f
  ·rw [if_pos hk]
   subst hk
   exact ⟨by simp,fun g h=>by simpa using h⟩
  ·rw [if_neg hk]
   refine ⟨?_,fun g h=>?_⟩
   ·rw [map_cons]
    exact mem_cons_of_mem _ i1
   ·rw [map_cons] at h ⊢
    rcases mem_cons.mp h with e|e
    ·exact mem_cons.mpr (.inl e)
    ·exact mem_cons_of_mem _ (i2 g e)
theorem ZdS (f:Str) (v:V):∀fs:List (Str×V),(Y6 f v fs).length<=fs.length+1
 |[]=>by simp [Y6]
 |(k,x)::r=>by
  have ih:=ZdS f v r
  rw [show Y6 f v ((k,x)::r)=(if k=f then (k,v)::r else (k,x)::Y6 f v r) from rfl]
  by_cases hk:k=f
  ·rw [if_pos hk,length_cons,length_cons];omega
  ·rw [if_neg hk,length_cons,length_cons];omega
theorem Zcj.some_of {v:V} {o:Option Value} (r:Zcj (some v) o):∃u,o=some u/\Z2 v u:=by
 cases o with
 |none=>exact (show False from r).elim
 |some u=>exact ⟨u,rfl,r⟩
theorem Zcj.none_of {o:Option Value} (r:Zcj none o):o=none:=by
 cases o with
 |none=>rfl
 |some u=>exact (show False from r).elim
theorem ZkI {v:V} {u:Value} (r:Z2 v u):handedIn u=true:=by
 cases v with
 |non=>cases (show u=Value.none from r);rfl
 |bl b=>cases (show u=Value.bool b from r);rfl
 |int i=>obtain ⟨t,e⟩:=(show ∃t,u=Value.int i t from r);cases e;rfl
 |str x=>obtain ⟨t,e⟩:=(show ∃t,u=Value.str x t from r);cases e;rfl
 |byt b=>obtain ⟨t,e⟩:=(show ∃t,u=Value.bytes b t from r);cases e;rfl
 |flt b=>obtain ⟨t,e⟩:=(show ∃t,u=Value.float b t from r);cases e;rfl
 |ref a=>cases (show u=Value.ref a from r);rfl
 |ty n=>cases (show u=Value.type n from r);rfl
section
variable {P:Program} {w:World} {H H':Hp} {h h':Heap} {a C dx:Addr} {fs fs':List (Str×V)}
theorem Zeh (hok:HOk P w H h) (e:H a=some (.ins C dx fs)):∃mA,ZiX h a dx C mA/\(∀f,Zcj (fs.lookup f) (mA f))/\PySem.Within mA (fs.map (·.1))/\fs.length<=1000/\H dx=some (.own a):=by
 obtain ⟨d,z,ne,ob,mA,n,r,q⟩:=(show zD P w H h a (.ins C dx fs) from hok a _ e)
 exact ⟨mA,⟨ob,n,ne⟩,r,q,z,d⟩
end
structure Cls (K:PySem.W.Frag) (C:Addr):Prop where
 pg:plainGet K C Str.empty=true
 hd:hasDictIn K C=true
 po:plainOver K C=true
 sa:findIn K (.ref C) "__setattr__"=some (some (.builtin "object.__setattr__"))
theorem Cls.get {K:PySem.W.Frag} {C:Addr} (c:Cls K C) (f:Str):plainGet K C f=true:=c.pg
def Jk (K:PySem.W.Frag) (C:Addr) (f:Str):Prop:=findIn K (.ref C) f=some none
theorem Jk.taker {K:PySem.W.Frag} {C:Addr} {f:Str} (n:Jk K C f):takerIn K C f=some none:=by
 unfold takerIn
 rw [show findIn K (.ref C) f=some none from n]
 rfl
structure Con (K:PySem.W.Frag) (C:Addr) (f:Str) (v:V) (u:Value):Prop where
 at_:findIn K (.ref C) f=some (some u)
 rel:Z2 v u
 get:specialIn K u "__get__"=some none
 cp:PySem.W.copiedNames.contains f=false
structure Zwg (K:PySem.W.Frag) (C:Addr) (m:Str) (f:Addr):Prop where
 at_:findIn K (.ref C) m=some (some (.ref f))
 fn:isFn K (.ref f)=true
 kp:keepIn K (.ref f)=true
section
variable {X:Cx} {Za:List (Addr×Obj)} {σ:St} {H:Hp} {s:Shared} {a C dx:Addr} {fs:List (Str×V)} {f:Str} {v:V} {A:Around} {E:Value->Shared->Prop}
theorem ZiK {b:Bool} {Q:Value->Shared->Prop} (I:Inv X Za σ H s) (e:H a=some (.ins C dx fs)) (c:Cls X.K C) (n:Jk X.K C f) (l:fs.lookup f=some v)
 (h:∀u s',Inv X Za σ H s'->Z2 v u->Q u s'):wpAny (model X.prog X.w) A (getAttr (.ref a) f b) Q E s:=by
 obtain ⟨mA,O,r,_,_,_⟩:=Zeh I.hok e
 obtain ⟨u,hu,ru⟩:=Zcj.some_of (v:=v) (o:=mA f) (by rw [<-l];exact r f)
 exact ZpQ I.kIn O (c.get f) c.hd n hu (ZkI ru) (h u _ (I.tok _) ru)
theorem Zfd {m:Str} {g:Addr} {pl:Sem Bool} {Q:Value×List Value->Shared->Prop} (I:Inv X Za σ H s) (e:H a=some (.ins C dx fs)) (c:Cls X.K C) (k:Zwg X.K C m g) (l:fs.lookup m=none)
 (h:Q (.ref g,[.ref a]) s):wpAny (model X.prog X.w) A (getMethod (.ref a) m pl) Q E s:=by
 obtain ⟨mA,O,r,_,_,_⟩:=Zeh I.hok e
 have hn:mA m=none:=Zcj.none_of (by rw [<-l];exact r m)
 exact ZlG I.kIn O (c.get m) k.at_ k.fn hn h
theorem ZiH {y:V} {u:Value} {Q:Unit->Shared->Prop} (I:Inv X Za σ H s) (e:H a=some (.ins C dx fs)) (c:Cls X.K C) (n:Jk X.K C f) (hl:fs.length<1000) (ry:Z2 y u)
 (h:∀s',Inv X Za σ (upd H a (.ins C dx (Y6 f y fs))) s'->Q () s'):wpAny (model X.prog X.w) A (setAttr (.ref a) f u) Q E s:=by
 obtain ⟨mA,O,r,wi,_,ho⟩:=Zeh I.hok e
 have hz:(fs.map (·.1)).length<=sizeLine:=by rw [length_map,sizeLine_eq];omega
 refine ZpD I.kIn O c.sa c.po n.taker c.hd wi hz fun h' O' sb=>h _ ?_
 have hd:∃o,h'.get? dx=some o:=let ⟨o,_,_,e',_⟩:=O'.ns;⟨o,e'⟩
 refine I.write (x:=a) (e:=dx) (by rw [e];exact True.intro) (.inr ho) (fun b q hb z=>(sb.2 b hb).trans z) hd ?_
 refine ⟨by rw [Zn O.ne];exact ho,?_,O.ne,O'.obj,_,O'.ns,fun g=>?_,fun g hg=>?_⟩
 ·have:=ZdS f y fs;omega
 ·show Zcj ((Y6 f y fs).lookup g) (if g=f then some u else mA g)
  rw [ZdV]
  by_cases q:g=f
  ·rw [if_pos q,if_pos q];exact ry
  ·rw [if_neg q,if_neg q];exact r g
 ·by_cases q:g=f
  ·rw [q];exact (ZdI f y fs).1
  ·refine (ZdI f y fs).2 g (wi g fun z=>hg ?_)
   show (if g=f then some u else mA g)=none
   rw [if_neg q];exact z
theorem Inv.made (I:Inv X Za σ H s):Inv X Za σ (upd (upd H s.heap.objs.size (.own (s.heap.objs.size+1))) (s.heap.objs.size+1) (.ins C s.heap.objs.size []))
 {s with heap:=(s.heap.push emptyDict).push (instObj C s.heap.objs.size)}:=by
 have e1:(s.heap.push emptyDict).get? s.heap.objs.size=some emptyDict:=Heap.get?_push_size s.heap rfl
 have e2:((s.heap.push emptyDict).push (instObj C s.heap.objs.size)).get? (s.heap.objs.size+1)=some (instObj C s.heap.objs.size):=by
  have:=Heap.get?_push_size (s.heap.push emptyDict) (o:=instObj C s.heap.objs.size) rfl
  rwa [Heap.size_push] at this
 have e3:(s.heap.push emptyDict).Ns s.heap.objs.size (fun _=>none):=⟨emptyDict,#[],_,e1,rfl,(fun e he=>absurd he (by simp)),fun _=>rfl⟩
 have I1:=I.laid (a:=s.heap.objs.size) (o:=.own (s.heap.objs.size+1)) (h':=s.heap.push emptyDict) (t':=s.toks) (fun b u q=>Heap.get?_push_of_some _ q) (Nat.le_refl _) ⟨_,e1⟩
 refine I1.laid (a:=s.heap.objs.size+1) (o:=.ins C s.heap.objs.size []) (t':=s.toks) (fun b u q=>Heap.get?_push_of_some _ q) (Nat.le_of_eq (Heap.size_push _ _)) ?_
 have ne:s.heap.objs.size≠s.heap.objs.size+1:=Nat.ne_of_lt (Nat.lt_succ_self _)
 refine ⟨by rw [Zn ne,Zj],Nat.zero_le _,ne,e2,fun _=>none,(Heap.Ns1.of_empty e3).at fun o q=>Heap.get?_push_of_some _ q,fun _=>True.intro,fun y hy=>absurd rfl hy⟩
theorem Zqf {prog:Program} {w:World} {env:Env} {e:Expr} {f:Str} {pos:Pos} {s:Shared} {Q:Value->Shared->Prop} (hb:attributeBase e f env (eval e env)=eval e env)
 (h:wpAny (model prog w) A (eval e env) (fun o s₁=>wpAny (model prog w) A (getAttr o f true) Q E s₁) E s):wpAny (model prog w) A (eval (.Attribute e f pos) env) Q E s:=
 Attribute_any_ h (by rw [arm_eval_Attribute,hb])
end
def ZA4 (K:PySem.W.Frag) (ta:TE) (f:Str):TE:=fun σ H Q=>ta σ H fun x H1=>∃a C dx fs v,x=.ref a/\H1 a=some (.ins C dx fs)/\Cls K C/\Jk K C f/\fs.lookup f=some v/\Q v H1
def ZA7 (K:PySem.W.Frag) (ta tv:TE) (f:Str):TS:=fun D σ H=>tv σ H fun y H1=>ta σ H1 fun x H2=>∃a C dx fs,x=.ref a/\H2 a=some (.ins C dx fs)/\Cls K C/\Jk K C f/\fs.length<1000/\
 D.nx σ (upd H2 a (.ins C dx (Y6 f y fs)))
section
variable {X:Cx} {o e value:Expr} {f:Str} {pos pos' tpos:Pos} {ta tv:TE}
theorem Zv1 (he:PE X e ta) (hb:attributeBase e f X.env (eval e X.env)=eval e X.env):PE X (.Attribute e f pos) (ZA4 X.K ta f):=by
 intro Za s σ H Q I h
 refine Zqf hb (thn (he Za s σ H _ I h) fun u s1 ⟨x,H1,I1,rx,a,C,dx,fs,v,ex,ea,c,n,l,q⟩=>?_)
 subst ex
 obtain rfl:u=Value.ref a:=rx
 exact ZiK I1 ea c n l fun u' s2 I2 ru=>⟨v,H1,I2,ru,q⟩
theorem Zsn (ha:PE X o ta) (hv:PE X value tv) (hs:swapsWith value (some (.Attribute o f pos')) pos.line X.env=pure false):PS X (.Assign [.Attribute o f pos'] value pos) (ZA7 X.K ta tv f):=by
 intro Za s σ H D I h
 refine plainObj_wpAny_Assign_Attribute (thn (hv Za s σ H _ I h) fun u s1 ⟨y,H1,I1,ry,q⟩=>thn (ha Za s1 σ H1 _ I1 q) fun ov s2 ⟨x,H2,I2,rx,a,C,dx,fs,ex,ea,c,n,l,q2⟩=>?_) hs
 subst ex
 obtain rfl:ov=Value.ref a:=rx
 exact ZiH I2 ea c n l ry fun s3 I3=>⟨σ,_,I3,q2⟩
end
section
variable {X:Cx} {Za:List (Addr×Obj)} {σ:St} {H:Hp} {s:Shared} {A:Around} {E:Value->Shared->Prop} {Q:Value->Shared->Prop} {c:Value} {b:Bool}
inductive ZcL (K:PySem.W.Frag) (H:Hp):V->Value->Prop where
 |non:ZcL K H .non (.type "NoneType")
 |bl (x:Bool):ZcL K H (.bl x) (.type "bool")
 |int (i:Int):ZcL K H (.int i) (.type "int")
 |str (x:Str):ZcL K H (.str x) (.type "str")
 |flt (x:UInt64):ZcL K H (.flt x) (.type "float")
 |lst {a:Addr} {xs:List V} (e:H a=some (.lst xs)):ZcL K H (.ref a) (.type "list")
 |frz {a:Addr} {o:Obj} {xs:List V} (e:H a=some (.frz o (.lst xs))):ZcL K H (.ref a) (.type "list")
 |tup {a:Addr} {xs:List V} (e:H a=some (.tup xs)):ZcL K H (.ref a) (.type "tuple")
 |dK {a:Addr} {kvs:List (Key×V)} (e:H a=some (.dK kvs)):ZcL K H (.ref a) (.type "dict")
 |dT {a:Addr} {kvs:List (List Key×V)} (e:H a=some (.dT kvs)):ZcL K H (.ref a) (.type "dict")
 |ins {a C dx:Addr} {fs:List (Str×V)} (e:H a=some (.ins C dx fs)) (cl:Cls K C) (ha:findIn K (.ref C) "__class__"=some (some (.builtin "object.__class__")))
  (hn:specialIn K (.builtin "object.__class__") "__get__"=some (some (.builtin "getset_descriptor.__get__"))) (htk:takesIn K (.builtin "object.__class__")=some true)
  (hm:mroIn K C (.type "object")=some true):ZcL K H (.ref a) (.ref C)
theorem ZfE {x:V} {u t:Value} (I:Inv X Za σ H s) (rx:Z2 x u) (ty:ZcL X.K H x t) (e:kitOne X.K t c=some b) (h:∀tk,Q (.bool b) {s with toks:=tk}):
 wpAny (model X.prog X.w) A (call (.builtin "isinstance") [u,c]) Q E s:=by
 cases ty with
 |non=>cases (show u=Value.none from rx);exact kia_one PySem.W.kitx_none I.kIn True.intro e (fun z=>nomatch z) h
 |bl y=>cases (show u=Value.bool y from rx);exact kia_one PySem.W.kitx_bool I.kIn True.intro e (fun z=>nomatch z) h
 |int i=>obtain ⟨t,q⟩:=(show ∃t,u=Value.int i t from rx);cases q;exact kia_one PySem.W.kitx_int I.kIn True.intro e (fun z=>nomatch z) h
 |str y=>obtain ⟨t,q⟩:=(show ∃t,u=Value.str y t from rx);cases q;exact kia_one PySem.W.kitx_str I.kIn True.intro e (fun z=>nomatch z) h
 |flt y=>obtain ⟨t,q⟩:=(show ∃t,u=Value.float y t from rx);cases q;exact kia_one PySem.W.kitx_float I.kIn True.intro e (fun z=>nomatch z) h
 |@lst a xs ea=>
  cases (show u=Value.ref a from rx)
  obtain ⟨_,_,n,_,h1⟩:=(show zD X.prog X.w H s.heap a (.lst xs) from I.hok a _ ea)
  exact kia_one kitx_list I.kIn ⟨_,h1,rfl⟩ e (fun z=>nomatch z) h
 |@frz a ob xs ea=>
  cases (show u=Value.ref a from rx)
  obtain ⟨_,_,_,n,_,h1⟩:=(show zD X.prog X.w H s.heap a (.frz ob (.lst xs)) from I.hok a _ ea)
  exact kia_one kitx_list I.kIn ⟨_,h1,rfl⟩ e (fun z=>nomatch z) h
 |@tup a xs ea=>
  cases (show u=Value.ref a from rx)
  obtain ⟨_,_,_,p⟩:=(show zD X.prog X.w H s.heap a (.tup xs) from I.hok a _ ea)
  obtain ⟨o,h1,h2,_⟩:=p
  exact kia_one PySem.W.kitx_tuple I.kIn ⟨o,h1,h2⟩ e (fun z=>nomatch z) h
 |@dK a kvs ea=>
  cases (show u=Value.ref a from rx)
  obtain ⟨_,_,vs,_,p⟩:=(show zD X.prog X.w H s.heap a (.dK kvs) from I.hok a _ ea)
  obtain ⟨o,es,ep,h1,h2,_⟩:=p
  exact kia_one PySem.W.kitx_dict I.kIn ⟨o,h1,h2.1⟩ e (fun z=>nomatch z) h
 |@dT a kvs ea=>exact False.elim (show zD X.prog X.w H s.heap a (.dT kvs) from I.hok a _ ea)
 |@ins a C dx fs ea cl ha hn htk hm=>
  cases (show u=Value.ref a from rx)
  obtain ⟨mA,O,_⟩:=Zeh I.hok ea
  obtain ⟨od,J,_⟩:=O.look
  exact kia_one (PySem.W.kitx_own (cl.get _) cl.hd ha hn htk hm) I.kIn J e (fun z=>nomatch z) h
end
structure YD (k:Nat) (A:Around):Prop where
 hd:A.handled=none
 dp:A.depth+3 * k+5<recursionLimit
 un:A.units+16 * k+200<cLine
theorem YD.mono {j k:Nat} {A:Around} (r:YD k A) (h:j<=k):YD j A:=⟨r.hd,by have:=r.dp;omega,by have:=r.un;omega⟩
theorem YD.deeper {k:Nat} {A:Around} (r:YD (k+1) A) (env:Env):YD k (A.deeper env):=
 ⟨r.hd,by have:=r.dp;show A.depth+1+3 * k+5<_;omega,by have:=r.un;show A.units+3+16 * k+200<_;omega⟩
theorem ZiN {A:Around} {C:Addr} {us:List Value} {kw:List (Str×Value)}:(A.under (.builtin "type.__call__" ⟨.ref C::us,kw⟩)).depth=A.depth+1:=by
 first|rfl|simp [Around.under,Code.weight,Code.isCreation,Code.isGuard,Code.isCaller,Code.frames,Code.isFrame,guardIds]
theorem Zid {A:Around} {C:Addr} {us:List Value} {kw:List (Str×Value)}:(A.under (.builtin "type.__call__" ⟨.ref C::us,kw⟩)).units=A.units+1:=by
 first|rfl|simp [Around.under,Code.cUnits,Code.frames,Code.isFrame]
theorem YD.make {k:Nat} {A:Around} (r:YD (k+1) A) (C:Addr) (us:List Value) (kw:List (Str×Value)):YD k (A.under (.builtin "type.__call__" ⟨.ref C::us,kw⟩)):=
 ⟨r.hd,by have:=r.dp;rw [ZiN];omega,by have:=r.un;rw [Zid];omega⟩
theorem YD.depth {k:Nat} {A:Around} (r:YD k A):A.depth<recursionLimit:=by have:=r.dp;omega
theorem YD.units {k:Nat} {A:Around} (r:YD k A):A.units+64<cLine:=by have:=r.un;omega
def ZL:TA:=fun _ H Q=>Q [] H
def Zx (ta:TE) (tr:TA):TA:=fun σ H Q=>ta σ H fun x H1=>tr σ H1 fun xs H2=>Q (x::xs) H2
section
variable {X:Cx} {e:Expr} {es:List Expr} {te:TE} {t:TA} {pos:Pos}
theorem Zf:PA X [] ZL:=fun _ _ _ _ H Q I h=>Calls.spliced_nil ⟨[],H,I,.nil,h⟩
theorem Zb (ha:PE X e te) (hr:PA X es t) (hs:starEach (e::es) X.env=(false,eval e X.env)::starEach es X.env:=by rfl):PA X (e::es) (Zx te t):=by
 intro pos Za s σ H Q I h
 rw [hs]
 show wpAny _ _ (spliced ((false,eval e X.env)::backTo pos (starEach es X.env))) _ _ s
 refine Calls.spliced_cons (thn (ha Za s σ H _ I h) fun u s1 ⟨x,H1,I1,r1,q1⟩=>?_)
 exact thn (hr pos Za s1 σ H1 _ I1 q1) fun us s2 ⟨xs,H2,I2,r2,q2⟩=>⟨x::xs,H2,I2,.cons r1 r2,q2⟩
def Zbv (t:TA):TE:=fun σ H Q=>t σ H fun xs H1=>xs.length<=sizeLine/\∀p,H1 p=none->Q (.ref p) (upd H1 p (.tup xs))
def Zh3 (t:TA):TE:=fun σ H Q=>t σ H fun xs H1=>xs.length<=sizeLine/\∀p,H1 p=none->Q (.ref p) (upd H1 p (.lst xs))
theorem Yv {x1} (h:PA X es t):PE X (.Tuple es x1 pos) (Zbv t):=by
 intro Za s σ H Q I hq
 refine wpAny_Tuple_spliced (thn (h pos Za s σ H _ I hq) fun us s1 ⟨xs,H1,I1,r,z,q⟩=>⟨by rw [<-r.length];exact z,?_⟩)
 have hf:H1 s1.heap.objs.size=none:=I1.hok.fresh (Nat.le_refl _)
 refine ⟨.ref s1.heap.objs.size,upd H1 s1.heap.objs.size (.tup xs),I1.laid (t':=s1.toks) (fun b u e=>Heap.get?_push_of_some _ e) (Nat.le_refl _) ?_,rfl,q _ hf⟩
 exact ⟨z,us,r,⟨_,Heap.get?_push_size _ rfl,rfl,_,rfl⟩⟩
theorem ZcC (h:PA X es t):PE X (.List es pos) (Zh3 t):=by
 intro Za s σ H Q I hq
 refine wpAny_List_spliced (thn (h pos Za s σ H _ I hq) fun us s1 ⟨xs,H1,I1,r,z,q⟩=>⟨by rw [<-r.length];exact z,?_⟩)
 have hf:H1 s1.heap.objs.size=none:=I1.hok.fresh (Nat.le_refl _)
 refine ⟨.ref s1.heap.objs.size,upd H1 s1.heap.objs.size (.lst xs),I1.laid (t':=s1.toks) (fun b u e=>Heap.get?_push_of_some _ e) (Nat.le_refl _) ?_,rfl,q _ hf⟩
 exact ⟨z,us,0,r,Heap.get?_push_size _ rfl⟩
end
abbrev Sp:=List V->Hp->VK->XK->Prop
abbrev CXT:=List Env->Hp->Shared->XK->Value->Shared->Prop
structure ZgC (P:Program) (w:World) (K:PySem.W.Frag) (mg:Str->Option Value) (base:Heap) (A:Around) (outer:List Env) (s:Shared) (H:Hp):Prop where
 frames:A.frames=some outer
 mod:Mod K mg base
 bs:∀b o,base.get? b=some o->s.heap.get? b=some o/\H b=none
 bsz:base.objs.size<=s.heap.objs.size
 funs:s.heap.FunFrames base outer
 frf:∀b∈frs outer,H b=none
 hok:HOk P w H s.heap
 bare:AllBare s.gens
def CE (outer:List Env) (P:Program) (w:World) (H:Hp) (s:Shared) (Q:VK) (u:Value) (s':Shared):Prop:=
 ∃v H',s'.os=s.os/\AllBare s'.gens/\Un (frs outer) [] H H' s.heap s'.heap/\HOk P w H' s'.heap/\Z2 v u/\Q v H'
def CR (CX:CXT) (outer:List Env) (P:Program) (w:World) (H:Hp) (s:Shared) (Q:VK) (E:XK) (r:Result) (s':Shared):Prop:=
 match r with
 | .ok (.ret u)=>CE outer P w H s Q u s'
 | .ok _=>False
 | .error e=>CX outer H s E e s'
structure Z4 (P:Program) (w:World) (K:PySem.W.Frag) (mg:Str->Option Value) (base:Heap) (CX:CXT) (k:Nat) (f:Addr) (fd:FuncData) (ps:List Str) (sp:Sp):Prop where
 len:∀vs H Q E,sp vs H Q E->vs.length=ps.length
 run:∀(A:Around) (outer:List Env) (s:Shared) (H:Hp) (args:Args) (us:List Value) (vs:List V) (Q:VK) (E:XK),YD k A->ZgC P w K mg base A outer s H->BindsTo s fd args (ps.zip us)->ZD vs us->sp vs H Q E->
  codeAny (model P w) A (.call (.ref f) args) (CR CX outer P w H s Q E) s
theorem ZgC.make {P:Program} {w:World} {K:PySem.W.Frag} {mg:Str->Option Value} {base:Heap} {A:Around} {outer:List Env} {s:Shared} {H:Hp} (e:ZgC P w K mg base A outer s H) (C:Addr) (us:List Value) (kw:List (Str×Value)):
 ZgC P w K mg base (A.under (.builtin "type.__call__" ⟨.ref C::us,kw⟩)) outer s H:=⟨by first|exact e.frames|(simpa [Around.under,Code.envs,Code.isFrame,pushEnvs] using e.frames),e.mod,e.bs,e.bsz,e.funs,e.frf,e.hok,e.bare⟩
section
variable {X:Cx} {Za:List (Addr×Obj)} {σ:St} {H:Hp} {s s':Shared}
theorem Inv.env0 (I:Inv X Za σ H s):ZgC X.prog X.w X.K X.mg X.base X.A X.stack s H:=
 ⟨I.ok.frames,I.ok.mod,I.bs,Nat.le_trans I.ok.bsz I.sz,I.stack,I.stkFree,I.hok,I.bare⟩
theorem Inv.after {Q:VK} {u:Value} (I:Inv X Za σ H s) (h:CE X.stack X.prog X.w H s Q u s'):EP X Za σ Q u s':=by
 obtain ⟨v,H',os,bare,un,hok,r,q⟩:=h
 obtain ⟨hh,g,d,t,os'⟩:=s'
 obtain rfl:os'=s.os:=os
 exact ⟨v,H',I.call (h':=hh) (g':=g) (d':=d) (t':=t) (ch:=[]) un hok bare (fun b z=>absurd z (by simp)),r,q⟩
end
def Zz2 (sp:Sp) (dvs:List V) (E:XK) (t:TA):TE:=fun σ H Q=>t σ H fun vs H1=>sp (vs++dvs) H1 Q E
def Zjn (C:Addr) (m:Str) (sp:Sp) (dvs:List V) (E:XK) (ta:TE) (t:TA):TE:=fun σ H Q=>ta σ H fun x H1=>∃a dx fs,x=.ref a/\H1 a=some (.ins C dx fs)/\fs.lookup m=none/\
 t σ H1 fun vs H2=>sp (x::(vs++dvs)) H2 Q E
def ZlD (C:Addr) (sp:Sp) (dvs:List V) (E:XK) (t:TA):TE:=fun σ H Q=>t σ H fun vs H1=>∀x dx,H1 x=none->H1 dx=none->dx≠x->
 sp (.ref x::(vs++dvs)) (upd (upd H1 dx (.own x)) x (.ins C dx [])) (fun v H2=>v=.non/\Q (.ref x) H2) E
def J8 (K:PySem.W.Frag) (fd:FuncData) (ps:List Str) (ds:List Value):Prop:=
 ∀(s:Shared) (us:List Value),K.In s.heap->(us++ds).length=ps.length->BindsTo s fd ⟨us,[]⟩ (ps.zip (us++ds))
theorem J8.all {K:PySem.W.Frag} {fd:FuncData} {ps:List Str} (h:∀us:List Value,us.length=ps.length->bindArgs fd ⟨us,[]⟩=pure (ps.zip us)):J8 K fd ps []:=fun s us _ hl=>by
 rw [append_nil] at hl ⊢
 exact .of_eq (h us hl)
def Zdw (CX:CXT) (X:Cx) (E:XK):Prop:=∀(Za:List (Addr×Obj)) (σ:St) (H:Hp) (s:Shared) (e:Value) (s':Shared),Inv X Za σ H s->CX X.stack H s E e s'->X.xe e s'
section
variable {X:Cx} {CX:CXT} {k:Nat} {f C:Addr} {fd:FuncData} {ps:List Str} {sp:Sp} {dvs:List V} {ds:List Value} {E:XK} {x m:Str} {p pos apos:Pos} {e o:Expr} {es:List Expr} {ta:TE} {t:TA}
theorem Zpx {Za:List (Addr×Obj)} {σ:St} {H:Hp} {s:Shared} {Q:VK} {us:List Value} {vs:List V} (F:Z4 X.prog X.w X.K X.mg X.base CX k f fd ps sp) (hr:YD k X.A) (hb:J8 X.K fd ps ds) (hd:ZD dvs ds) (hx:Zdw CX X E)
 (I:Inv X Za σ H s) (r:ZD vs us) (h:sp (vs++dvs) H Q E):wpAny (model X.prog X.w) X.A (call (.ref f) us) (EP X Za σ Q) X.xe s:=by
 have r2:ZD (vs++dvs) (us++ds):=r.append hd
 have hl:(us++ds).length=ps.length:=by rw [<-r2.length];exact F.len _ _ _ _ h
 refine wpAny_call (codeAny_mono (F.run X.A X.stack s H ⟨us,[]⟩ (us++ds) (vs++dvs) Q E hr I.env0 (hb s us I.kIn hl) r2 h) fun r s' hq=>?_)
 cases r with
 |error e=>exact hx Za σ H s e s' I hq
 |ok fl=>
  cases fl with
  |ret u=>exact I.after hq
  |next=>exact False.elim hq
  |brk=>exact False.elim hq
  |cont=>exact False.elim hq
theorem ZpE (F:Z4 X.prog X.w X.K X.mg X.base CX k f fd ps sp) (hr:YD k X.A) (hg:Gl X x) (hm:X.mg x=some (.ref f)) (hk:keepIn X.K (.ref f)=true) (hb:J8 X.K fd ps ds) (hd:ZD dvs ds) (hx:Zdw CX X E)
 (ha:PA X (e::es) t) (hdb:(x==("__debug__":Str))=false:=by decide) (he:starEach (e::es) X.env=(false,eval e X.env)::starEach es X.env:=by rfl) (hpl:(backTo pos (starEach es X.env)).any (·.1)=false:=by rfl):
 PE X (.Call (.Name x p) (e::es) [] pos) (Zz2 sp dvs E t):=by
 intro Za s σ H Q I h
 refine wpAny_Call_Name_kw (Zbq I hg hm ?_ hdb)
 refine callWith_K (h₀:=X.base) I.ok.mod.kin hk (thn (ha pos Za s σ H _ I h) fun us s1 ⟨vs,H1,I1,r,q⟩=>⟨I1.kIn,?_⟩) he hpl
 exact Zpx F hr hb hd hx I1 r q
theorem ZqN {pl:Sem Bool} (he:PE X o ta) (c:Cls X.K C) (hm:Zwg X.K C m f) (F:Z4 X.prog X.w X.K X.mg X.base CX k f fd ps sp) (hr:YD k X.A) (hb:J8 X.K fd ps ds) (hd:ZD dvs ds) (hx:Zdw CX X E) (ha:PA X (e::es) t)
 (hst:starEach (e::es) X.env=(false,eval e X.env)::starEach es X.env:=by rfl) (hpl:(backTo pos (starEach es X.env)).any (·.1)=false:=by rfl)
 (ht:eval (.Call (.Attribute o m apos) (e::es) [] pos) X.env=(do
  let ov <-eval o X.env
  standAt apos.atName
  let (f,first) <-holding [ov] (getMethod ov m pl)
  callWith pos f first (backTo pos (starEach (e::es) X.env)) (backToKw pos (keywordEach [] X.env))):=by rfl):
 PE X (.Call (.Attribute o m apos) (e::es) [] pos) (Zjn C m sp dvs E ta t):=by
 intro Za s σ H Q I h
 refine methodCall_KW (pl:=pl) (thn (he Za s σ H _ I h) fun u s1 ⟨x,H1,I1,rx,a,dx,fs,ex,ea,l,q⟩=>?_) ht
 subst ex
 obtain rfl:u=Value.ref a:=rx
 refine Zfd I1 ea c hm l ?_
 refine callWith_K (first:=[.ref a]) (h₀:=X.base) I.ok.mod.kin hm.kp (thn (ha pos Za s1 σ H1 _ I1 q) fun us s2 ⟨vs,H2,I2,r,q2⟩=>⟨I2.kIn,?_⟩) hst hpl
 exact Zpx (us:=.ref a::us) (vs:=.ref a::vs) F hr hb hd hx I2 (.cons rfl r) q2
structure Mk (K:PySem.W.Frag) (C f:Addr):Prop where
 makes:makesIn K C=true
 init:findIn K (.ref C) "__init__"=some (some (.ref f))
 fn:isFn K (.ref f)=true
 kp:keepIn K (.ref C)=true
theorem Zpk {Za:List (Addr×Obj)} {σ:St} {H:Hp} {s:Shared} {Q:VK} {us:List Value} {vs:List V} (M:Mk X.K C f) (F:Z4 X.prog X.w X.K X.mg X.base CX k f fd ps sp) (hr:YD (k+1) X.A) (hb:J8 X.K fd ps ds) (hd:ZD dvs ds)
 (hx:Zdw CX X E) (I:Inv X Za σ H s) (r:ZD vs us)
 (h:∀x dx,H x=none->H dx=none->dx≠x->sp (.ref x::(vs++dvs)) (upd (upd H dx (.own x)) x (.ins C dx [])) (fun v H2=>v=.non/\Q (.ref x) H2) E):
 wpAny (model X.prog X.w) X.A (call (.ref C) us) (EP X Za σ Q) X.xe s:=by
 have hq:=h (s.heap.objs.size+1) s.heap.objs.size (I.hok.fresh (Nat.le_succ _)) (I.hok.fresh (Nat.le_refl _)) (Nat.ne_of_lt (Nat.lt_succ_self _))
 have I2:=Inv.made (C:=C) I
 have r2:ZD (V.ref (s.heap.objs.size+1)::(vs++dvs)) (Value.ref (s.heap.objs.size+1)::(us++ds)):=.cons rfl (r.append hd)
 have hl:(Value.ref (s.heap.objs.size+1)::us++ds).length=ps.length:=by
  have e:=r2.length
  rw [F.len _ _ _ _ hq] at e
  exact e.symm
 refine wpAny_call (Zhn (f:=f) I.kIn M.makes M.init (beq_iff_eq.mp M.fn) (codeAny_mono (F.run _ X.stack _ _ ⟨Value.ref (s.heap.objs.size+1)::us,[]⟩ (Value.ref (s.heap.objs.size+1)::(us++ds)) _ _ E (hr.make C us [])
  (I2.env0.make C us []) (hb _ (Value.ref (s.heap.objs.size+1)::us) I2.kIn hl) r2 hq) fun r s' hq'=>?_))
 cases r with
 |error e=>exact hx Za σ _ _ e s' I2 hq'
 |ok fl=>
  cases fl with
  |ret u=>
   obtain ⟨v,H',I3,rv,ev,q3⟩:=I2.after hq'
   subst ev
   exact ⟨rv,⟨V.ref (s.heap.objs.size+1),H',I3,rfl,q3⟩⟩
  |next=>exact False.elim hq'
  |brk=>exact False.elim hq'
  |cont=>exact False.elim hq'
theorem ZmG (M:Mk X.K C f) (F:Z4 X.prog X.w X.K X.mg X.base CX k f fd ps sp) (hr:YD (k+1) X.A) (hg:Gl X x) (hm:X.mg x=some (.ref C)) (hb:J8 X.K fd ps ds) (hd:ZD dvs ds) (hx:Zdw CX X E)
 (hdb:(x==("__debug__":Str))=false:=by decide):PE X (.Call (.Name x p) [] [] pos) (ZlD C sp dvs E ZL):=by
 intro Za s σ H Q I h
 refine wpAny_Call_Name_kw (Zbq I hg hm ?_ hdb)
 exact PySem.W.callWith_K0 I.kIn M.kp (Zpk (us:=[]) M F hr hb hd hx I .nil h)
end
section
variable {X:Cx} {CX:CXT} {k:Nat} {f C:Addr} {fd:FuncData} {ps ks:List Str} {sp:Sp} {E:XK} {x m:Str} {p pos apos kpos:Pos} {e o:Expr} {es:List Expr} {kws:List Keyword} {te ta:TE} {t tk:TA} {nm:Option Str}
structure ZAN (K:PySem.W.Frag) (fd:FuncData) (ps ks:List Str) (g:List Value->List Value->List Value) (gV:List V->List V->List V):Prop where
 to:∀(s:Shared) (us ws:List Value),K.In s.heap->(g us ws).length=ps.length->BindsTo s fd ⟨us,ks.zip ws⟩ (ps.zip (g us ws))
 rel:∀{vs:List V} {us:List Value} {zs:List V} {ws:List Value},ZD vs us->ZD zs ws->ZD (gV vs zs) (g us ws)
variable {g:List Value->List Value->List Value} {gV:List V->List V->List V}
end
structure ZA (N P:List Str) (sc:Scope):Prop where
 kind:sc.kind=.function
 co:sc.isCoroutine=false
 gen:sc.isGenerator=false
 nd:N.Nodup
 pre:N.take P.length=P
 par:∀x∈P,sc.names.lookup x=some .local\/sc.names.lookup x=some .cell
 nofree:∀y∈sc.names,y.2≠ .free
theorem ZfO {kindOf:Str->Option NameKind} {x:Str}:∀{binds:List (Str×Value)} {m:Str->Option Value},(∀v,(x,v)∉binds)->bindL kindOf binds m x=m x
 |[],_,_=>rfl
 |(n,v)::r,m,h=>by
  unfold bindL
  rw [ZfO fun w hw=>h w (mem_cons_of_mem _ hw)]
  split
  ·have:x≠n:=by rintro rfl;exact h v mem_cons_self
   simp [this]
  ·rfl
theorem ZfP {kindOf:Str->Option NameKind} {x:Str}:∀{binds:List (Str×Value)} {m:Str->Option Value},(∀v,(x,v)∉binds)->bindC kindOf binds m x=m x
 |[],_,_=>rfl
 |(n,v)::r,m,h=>by
  unfold bindC
  rw [ZfP fun w hw=>h w (mem_cons_of_mem _ hw)]
  split
  ·rfl
  ·have:x≠n:=by rintro rfl;exact h v mem_cons_self
   simp [this]
theorem Zf6 {kindOf:Str->Option NameKind} {x:Str} {v:Value}:∀{P:List Str} {vs:List Value} {i:Nat} {m:Str->Option Value},P.Nodup->P[i]?=some x->vs[i]?=some v->kindOf x=some .local->
 bindL kindOf (P.zip vs) m x=some v
 |[],_,_,_,_,h,_,_=>by simp at h
 |_::_,[],_,_,_,_,h,_=>by simp at h
 |p::P,w::vs,0,m,nd,h1,h2,hk=>by
  simp at h1 h2;subst h1;subst h2
  show bindL kindOf ((p,w)::P.zip vs) m p=_
  unfold bindL
  rw [ZfO fun v hv=>(List.nodup_cons.mp nd).1 (List.of_mem_zip hv).1,if_pos hk]
  simp
 |p::P,w::vs,i+1,m,nd,h1,h2,hk=>by
  show bindL kindOf ((p,w)::P.zip vs) m x=_
  unfold bindL
  exact Zf6 (i:=i) (List.nodup_cons.mp nd).2 (by simpa using h1) (by simpa using h2) hk
theorem ZfK {kindOf:Str->Option NameKind} {x:Str} {v:Value}:∀{P:List Str} {vs:List Value} {i:Nat} {m:Str->Option Value},P.Nodup->P[i]?=some x->vs[i]?=some v->kindOf x≠some .local->
 bindC kindOf (P.zip vs) m x=some v
 |[],_,_,_,_,h,_,_=>by simp at h
 |_::_,[],_,_,_,_,h,_=>by simp at h
 |p::P,w::vs,0,m,nd,h1,h2,hk=>by
  simp at h1 h2;subst h1;subst h2
  show bindC kindOf ((p,w)::P.zip vs) m p=_
  unfold bindC
  rw [ZfP fun v hv=>(List.nodup_cons.mp nd).1 (List.of_mem_zip hv).1,if_neg hk]
  simp
 |p::P,w::vs,i+1,m,nd,h1,h2,hk=>by
  show bindC kindOf ((p,w)::P.zip vs) m x=_
  unfold bindC
  exact ZfK (i:=i) (List.nodup_cons.mp nd).2 (by simpa using h1) (by simpa using h2) hk
def ZR (N:List Str) (vs:List V):St:=vs.map some++List.replicate (N.length-vs.length) none
def Zav (CX:CXT) (P:Program) (w:World) (K:PySem.W.Frag) (mg:Str->Option Value) (base:Heap) (N:List Str) (qual:Str) (scope:Scope) (f:Addr) (cd:Value) (A:Around) (outer:List Env) (s:Shared) (H:Hp) (E:XK):Cx where
 prog:=P
 w:=w
 K:=K
 mg:=mg
 base:=base
 A:=A.deeper (envOfC qual scope s.heap.objs.size f cd)
 N:=N
 s₀:=s
 H₀:=H
 env:=envOfC qual scope s.heap.objs.size f cd
 outer:=outer
 stack:=envOfC qual scope s.heap.objs.size f cd::outer
 ex:=[]
 calm:=true
 fn:=fun _=>true
 pn:=[]
 xe:=fun e s'=>wpAny (model P w) (A.deeper (envOfC qual scope s.heap.objs.size f cd)) (leaving (envOfC qual scope s.heap.objs.size f cd) e) (fun _ s''=>CX outer H s E e s'') (fun e' s''=>CX outer H s E e' s'') s'
theorem Zh6 {sc:Scope} {n:Nat} {x:Str} (h:sc.names.lookup x=some .cell):∃c,(cellsFrom n sc.names []).lookup x=some c:=by
 have q:=cellsFrom_some sc.names n [] (.inl h)
 exact Option.isSome_iff_exists.mp q
theorem Zla {CX:CXT} {P:Program} {w:World} {K:PySem.W.Frag} {mg:Str->Option Value} {base:Heap} {N ps:List Str} {qual:Str} {scope:Scope} {f:Addr} {cd:Value} {A:Around} {outer:List Env} {s s1:Shared} {H:Hp} {E:XK} {us:List Value} {vs:List V}
 (S:ZA N ps scope) (hd:A.handled=none) (e0:ZgC P w K mg base A outer s H) (hl:vs.length=ps.length) (r:ZD vs us)
 (x:InCallC s s.heap.objs.size (bindL (envOfC qual scope s.heap.objs.size f cd).kindOf (ps.zip us) fun _=>none) (cellsFrom (s.heap.objs.size+1) scope.names []) (bindC (envOfC qual scope s.heap.objs.size f cd).kindOf (ps.zip us) fun _=>none) s1):
 Inv (Zav CX P w K mg base N qual scope f cd A outer s H E) [] (ZR N vs) H s1:=by
 have hpl:ps.length<=N.length:=by have:=congrArg List.length S.pre;rw [length_take] at this;omega
 obtain ⟨h1,tk,rfl,hk⟩:=x.done
 have noA:∀b:Addr,b∉(Zav CX P w K mg base N qual scope f cd A outer s H E).ex:=fun b z=>absurd (show b∈([]:List Addr) from z) (by simp)
 refine ⟨⟨e0.mod,S.kind,rfl,rfl,Nat.le_refl _,fun y z c h1 h2=>?_,fun y hy=>?_,fun y c _ h=>?_,fun _=>hd,Around.frames_deeper e0.frames,.inr ⟨rfl,rfl⟩,fun b z=>absurd z (noA b),e0.bs,e0.bsz,fun b _ _=>noA b,fun b z=>absurd z (noA b),e0.funs,e0.frf⟩,
  rfl,e0.bare,Un.kept hk,⟨_,x.toInCall.ns,fun i y v h1 h2 h3=>?_⟩,fun y c h=>⟨_,x.cell y c h⟩,e0.hok.fresh (Nat.le_refl _),fun y c h=>?_,fun p hp=>absurd (show p∈([]:List (Addr×Obj)) from hp) (by simp),e0.hok.kept hk,?_⟩
 ·exact name_of_addr x.apart (PySem.mem_of_lookup h1) (PySem.mem_of_lookup h2)
 ·have hy:scope.names.lookup y=some .cell\/scope.names.lookup y=some .free:=hy
  rcases hy with hy|hy
  ·exact Zh6 hy
  ·exact absurd rfl (S.nofree _ (PySem.mem_of_lookup hy))
 ·exact Nat.le_of_lt (x.above y c (PySem.mem_of_lookup h))
 ·have hi:i<vs.length:=by
   unfold ZR at h2
   by_cases hi:i<vs.length
   ·exact hi
   ·rw [List.getElem?_append_right (by simpa using hi)] at h2
    rw [List.getElem?_replicate] at h2
    split at h2<;>cases h2
  have ha:vs[i]?=some v:=by
   unfold ZR at h2
   rw [List.getElem?_append_left (by simpa using hi),List.getElem?_map] at h2
   cases e:vs[i]? with
   |none=>rw [e] at h2;cases h2
   |some a=>rw [e] at h2;cases h2;rfl
  obtain ⟨u,hu,rv⟩:=r.get ha
  have hp:ps[i]?=some y:=by
   rw [<-S.pre,List.getElem?_take_of_lt (by omega)];exact h1
  have ndP:ps.Nodup:=by rw [<-S.pre];exact S.nd.sublist (List.take_sublist _ _)
  refine ⟨u,rv,?_⟩
  rcases S.par y (List.mem_of_getElem? hp) with k|k
  ·exact .inl ⟨k,Zf6 ndP hp hu k⟩
  ·obtain ⟨c,e⟩:=Zh6 (n:=s.heap.objs.size+1) k
   refine .inr ⟨.inl k,c,e,?_⟩
   have q:=x.cell y c e
   rw [ZfK ndP hp hu (by show scope.names.lookup y≠_;rw [k];decide)] at q
   exact q
 ·exact e0.hok.fresh (Nat.le_of_lt (x.above y c (PySem.mem_of_lookup h)))
 ·unfold ZR
  show _=N.length
  rw [length_append,length_map,length_replicate]
  omega
theorem Zjq {CX:CXT} {P:Program} {w:World} {K:PySem.W.Frag} {mg:Str->Option Value} {base:Heap} {k:Nat} {f:Addr} {name qual:Str} {params:Arguments} {body:List Stmt} {scope:Scope} {dV kV doc pm cdv ct oc:Value} {an od:Option Addr}
 {osl:Array (Option Value)} {N ps:List Str} {sp:Sp} (lk:K.lookup f=some ⟨oc,od,.func (fnOf name qual params body scope dV kV doc pm an cdv ct),osl⟩) (hcd:codeIn K cdv qual=true) (S:ZA N ps scope)
 (len:∀vs H Q E,sp vs H Q E->vs.length=ps.length)
 (hbody:∀(A:Around) (outer:List Env) (s:Shared) (H:Hp) (vs:List V) (Q:VK) (E:XK),YD k (A.deeper (envOfC qual scope s.heap.objs.size f cdv))->sp vs H Q E->
  ∃t,PSs (Zav CX P w K mg base N qual scope f cdv A outer s H E) body t/\t {nx:=fun _ H'=>Q .non H',rt:=Q} (ZR N vs) H):
 Z4 P w K mg base CX (k+1) f (fnOf name qual params body scope dV kV doc pm an cdv ct) ps sp:=by
 refine ⟨len,fun A outer s H args us vs Q E hr e0 hb r hsp=>?_⟩
 have hl:=len _ _ _ _ hsp
 have KX:K.In s.heap:=e0.mod.kin.keeps fun b o e=>(e0.bs b o e).1
 have lim:s.heap.NoLimit:=e0.mod.nolimit.keeps fun b o e=>(e0.bs b o e).1
 have hkind:∀y∈ps.zip us,scope.names.lookup y.1=some .local\/(scope.names.lookup y.1=some .cell/\((cellsFrom (s.heap.objs.size+1) scope.names []).lookup y.1).isSome=true):=fun ⟨n,v⟩ hy=>by
  rcases S.par n (List.of_mem_zip hy).1 with q|q
  ·exact .inl q
  ·exact .inr ⟨q,cellsFrom_some _ _ _ (.inl q)⟩
 refine codeAny_call_function hr.depth (KX _ _ lk) rfl S.co S.gen rfl (PySem.W.codeRec_of KX hcd) (hb _ _ _ _ ?_)
 refine wpAny_newFunctionEnv_cells S.kind hkind fun env he s1 x=>?_
 subst he
 refine ⟨lim.keeps x.toInCall.keep,codeAny_func ?_⟩
 obtain ⟨t,ht,hq⟩:=hbody A outer s H vs Q E (hr.deeper _) hsp
 have I:Inv (Zav CX P w K mg base N qual scope f cdv A outer s H E) [] (ZR N vs) H s1:=Zla S hr.hd e0 hl r x
 refine wpAny_mono (ht [] s1 (ZR N vs) H _ I hq) (fun fl s' hs=>?_) fun e s' hs=>hs
 have fin:∀{σ':St} {H':Hp} {v:V} {u:Value},Inv (Zav CX P w K mg base N qual scope f cdv A outer s H E) [] σ' H' s'->Z2 v u->Q v H'->CE outer P w H s Q u s':=
  fun {σ' H' v u} J rv q=>⟨v,H',J.os,J.bare,J.base,J.hok,rv,q⟩
 cases fl with
 |ret u=>
  obtain ⟨v,σ',H',J,rv,q⟩:=hs
  exact fin J rv q
 |next=>
  obtain ⟨σ',H',J,q⟩:=hs
  exact fin (v:=V.non) (u:=Value.none) J rfl q
 |brk=>
  obtain ⟨_,_,_,q⟩:=hs
  exact False.elim q
 |cont=>
  obtain ⟨_,_,_,q⟩:=hs
  exact False.elim q
section
variable {X:Cx} {x:Str} {p pos:Pos} {e:Expr} {es:List Expr} {t:TA} {id T:String} {r:List V->Hp->VK->Prop}
def tCB (r:List V->Hp->VK->Prop) (t:TA):TE:=fun σ H Q=>t σ H fun vs H1=>r vs H1 Q
theorem ZH (hc:Jc X (.builtin id) r) (hg:Gl X x) (hm:X.mg x=none) (hv:bootBuiltins x=some (.builtin id)) (ha:PA X (e::es) t) (hn:x≠"__name__":=by decide) (hdb:(x==("__debug__":Str))=false:=by decide)
 (he:starEach (e::es) X.env=(false,eval e X.env)::starEach es X.env:=by rfl) (hpl:(backTo pos (starEach es X.env)).any (·.1)=false:=by rfl):PE X (.Call (.Name x p) (e::es) [] pos) (tCB r t):=by
 intro Za s σ H Q I h
 refine wpAny_Call_Name_kw (Zbo I hg hm hv ?_ hn hdb)
 exact PyProof.Rows.callWith_builtin1 (thn (ha pos Za s σ H _ I h) fun us s1 ⟨vs,H1,I1,r1,q1⟩=>hc Za s1 σ H1 vs us Q I1 r1 q1) he hpl
theorem zF (hc:Jc X (.type T) r) (hg:Gl X x) (hm:X.mg x=none) (hv:bootBuiltins x=some (.type T)) (ha:PA X (e::es) t) (hn:x≠"__name__":=by decide) (hdb:(x==("__debug__":Str))=false:=by decide)
 (he:starEach (e::es) X.env=(false,eval e X.env)::starEach es X.env:=by rfl) (hpl:(backTo pos (starEach es X.env)).any (·.1)=false:=by rfl):PE X (.Call (.Name x p) (e::es) [] pos) (tCB r t):=by
 intro Za s σ H Q I h
 refine wpAny_Call_Name_kw (Zbo I hg hm hv ?_ hn hdb)
 exact PyProof.Rows.callWith_type1 (thn (ha pos Za s σ H _ I h) fun us s1 ⟨vs,H1,I1,r1,q1⟩=>hc Za s1 σ H1 vs us Q I1 r1 q1) he hpl
end
end L2
namespace HT
open PySem PyProof.Rows
section
variable {prog:Program} {w:World} {A:Around} {E:Value->Shared->Prop} {s:Shared}
theorem ZpK {t b:Addr} {vs ws:List Value} {Q:Value->Shared->Prop} (ht:IsTup s.heap t vs.toArray) (hb:IsTup s.heap b ws.toArray) (hv:vs≠[])
 (h1:ws=[]->Q (.ref t) s) (h2:ws≠[]->Q (.ref s.heap.objs.size) {s with heap:=s.heap.push {cls:=.type "tuple",data:=.seq (vs++ws).toArray} })
 (hsz:vs.length+ws.length<=sizeLine):wpAny (model prog w) A (binaryOp .Add (.ref t) (.ref b)) Q E s:=by
 obtain ⟨⟨cls,dd,data,sl⟩,ho,hc,n,hd⟩:=id ht
 obtain ⟨⟨cls2,dd2,data2,sl2⟩,ho2,hc2,n2,hd2⟩:=id hb
 simp only at hc hd hc2 hd2
 subst hc hd hc2 hd2
 have e:vs.toArray++ws.toArray=(vs++ws).toArray:=by simp
 by_cases hw:ws=[]
 ·exact concat_meets ⟨_,ho,rfl⟩ ⟨_,ho2,rfl⟩ noFill_tuple_add seq_tuple_add PySem.F.slot_tuple_add PySem.F.entry_tuple_add (PySem.F.args_tuple_add_2 _ _)
   (tuple_addW1 t b vs.toArray ws.toArray n n2 dd dd2 sl sl2 (by simpa using hv) (by simp [hw])) ⟨ho,ho2,h1 hw⟩
 ·refine concat_meets ⟨_,ho,rfl⟩ ⟨_,ho2,rfl⟩ noFill_tuple_add seq_tuple_add PySem.F.slot_tuple_add PySem.F.entry_tuple_add (PySem.F.args_tuple_add_2 _ _)
   (tuple_addW2 t b vs.toArray ws.toArray n n2 dd dd2 sl sl2 (by simpa using hv) (by simpa using hw) (by rw [size_toArray,size_toArray];exact hsz)) ⟨ho,ho2,?_⟩
  rw [e]
  exact h2 hw
def sIx (n d:Nat):Option Int->Nat
 |none=>d
 |some v=>if v<0 then (v+(n:Int)).toNat else min v.toNat n
theorem ZmK (n d:Nat) (hd:d<=n) (o:Option Int):sIx n d o<=n:=by
 cases o with
 |none=>exact hd
 |some v=>
  show (if v<0 then (v+(n:Int)).toNat else min v.toNat n)<=n
  by_cases hv:v<0
  ·rw [if_pos hv];omega
  ·rw [if_neg hv];exact Nat.min_le_right _ _
end
end HT
namespace L2
open PySem PySem.Spec PyProof.Rows
abbrev TO:=St->Hp->(Option Int->Hp->Prop)->Prop
def PO (X:Cx) (e:Option Expr) (t:TO):Prop:=
 ∀(Za:List (Addr×Obj)) (s:Shared) (σ:St) (H:Hp) (Q:Option Int->Hp->Prop),Inv X Za σ H s->t σ H Q->
  wpAny (model X.prog X.w) X.A (evalPart e X.env) (fun u s'=>∃o H',Inv X Za σ H' s'/\IsPart u o/\Q o H') X.xe s
def ZaN:TO:=fun _ H Q=>Q none H
def Zzw (t:TE):TO:=fun σ H Q=>t σ H fun x H1=>∃i,x=.int i/\Q (some i) H1
section
variable {X:Cx} {e:Expr} {te:TE} {lo hi:Option Expr} {tl th:TO} {pos p2:Pos}
theorem Zaw:PO X none ZaN:=by
 intro Za s σ H Q I h
 rw [evalPart_none]
 exact wpAny_pure ⟨none,H,I,.none,h⟩
theorem ZpP (h:PE X e te):PO X (some e) (Zzw te):=by
 intro Za s σ H Q I hw
 rw [evalPart_some]
 refine thn (h Za s σ H _ I hw) fun u s1 ⟨x,H1,I1,r1,q1⟩=>?_
 obtain ⟨i,rfl,q⟩:=q1
 obtain ⟨t,rfl⟩:=r1
 exact ⟨some i,H1,I1,.int i t,q⟩
def SlR (X:Cx) (r:V->Option Int->Option Int->Hp->VK->Prop):Prop:=
 ∀(Za:List (Addr×Obj)) (s:Shared) (σ:St) (H:Hp) (x:V) (v vl vu:Value) (lo hi:Option Int) (sl:Addr) (Q:VK),Inv X Za σ H s->Z2 x v->s.heap.IsSliceOf sl vl vu .none->IsPart vl lo->IsPart vu hi->r x lo hi H Q->
  ∃T id,typeLookup (.type T) "__getitem__"=pure (some (.builtin id))/\s.TypeIs v T/\wpAny (model X.prog X.w) X.A (getItem v (.ref sl)) (EP X Za σ Q) X.xe s
def tSl (r:V->Option Int->Option Int->Hp->VK->Prop) (te:TE) (tl th:TO):TE:=fun σ H Q=>te σ H fun x H1=>tl σ H1 fun l H2=>th σ H2 fun u H3=>r x l u H3 Q
theorem qj {r:V->Option Int->Option Int->Hp->VK->Prop} (hr:SlR X r) (he:PE X e te) (hl:PO X lo tl) (hu:PO X hi th):PE X (.Subscript e (.Slice lo hi none p2) pos) (tSl r te tl th):=by
 intro Za s σ H Q I h
 refine Subscript_ (thn (he Za s σ H _ I h) fun v s1 ⟨x,H1,I1,r1,q1⟩=>?_)
 refine wpAny_Slice (thn (hl Za s1 σ H1 _ I1 q1) fun vl s2 ⟨l,H2,I2,pl,q2⟩=>thn (hu Za s2 σ H2 _ I2 q2) fun vu s3 ⟨u,H3,I3,pu,q3⟩=>?_)
 rw [evalPart_none]
 refine wpAny_pure ?_
 have I4:Inv X Za σ H3 {s3 with heap:=s3.heap.push {cls:=.type "slice",data:=.fields #[vl,vu,.none]} }:=I3.kept (t':=s3.toks) fun b ob q=>Heap.get?_push_of_some _ q
 obtain ⟨T,id,hT,ht,hg⟩:=hr Za {s3 with heap:=s3.heap.push {cls:=.type "slice",data:=.fields #[vl,vu,.none]} } σ H3 x v vl vu l u s3.heap.objs.size Q I4 r1 (Heap.IsSliceOf.new ..) pl pu q3
 show wpAny (model X.prog X.w) X.A (subscriptTail e (.Slice lo hi none p2) v (.ref s3.heap.objs.size)) (EP X Za σ Q) X.xe {s3 with heap:=s3.heap.push {cls:=.type "slice",data:=.fields #[vl,vu,.none]} }
 exact tail_any (ops:=[.ref s3.heap.objs.size,v]) ht hT hg (by with_unfolding_all rfl)
def Zqk (xs:List V) (lo hi:Option Int):List V:=(xs.drop (HT.sIx xs.length 0 lo)).take (HT.sIx xs.length xs.length hi-HT.sIx xs.length 0 lo)
theorem Zib (xs:List V) (lo hi:Option Int):(Zqk xs lo hi).length<=xs.length:=by
 unfold Zqk
 rw [length_take,length_drop]
 omega
def Zn8 (K:PySem.W.Frag):R2:=fun x y H Q=>∃a b xs ys,x=.ref a/\y=.ref b/\SqT K H a xs/\SqT K H b ys/\xs≠[]/\xs.length+ys.length<=sizeLine/\
 (ys=[]->Q (.ref a) H)/\(ys≠[]->∀p,H p=none->Q (.ref p) (upd H p (.tup (xs++ys))))
theorem ZD.nil_iff {xs:List V} {us:List Value} (r:ZD xs us):us=[]↔xs=[]:=by
 cases r with
 |nil=>simp
 |cons _ _=>simp
theorem ZpT:OpR X (binaryOp .Add) (Zn8 X.K):=by
 intro Za s σ H x y v u Q I rx ry h
 obtain ⟨a,b,xs,ys,rfl,rfl,ha,hb,hx,hz,q1,q2⟩:=h
 cases rx
 cases ry
 obtain ⟨its,r1,p1,_⟩:=I.tuple ha
 obtain ⟨its2,r2,p2,_⟩:=I.tuple hb
 refine HT.ZpK p1 p2 (fun z=>hx (r1.nil_iff.mp z)) (fun z=>⟨.ref a,H,I,rfl,q1 (r2.nil_iff.mp z)⟩) (fun z=>?_) (by rw [<-r1.length,<-r2.length];exact hz)
 refine ⟨.ref s.heap.objs.size,_,I.laid (t':=s.toks) (o:=.tup (xs++ys)) (fun b ob q=>Heap.get?_push_of_some _ q) (Nat.le_refl _) ?_,rfl,q2 (fun w=>z (r2.nil_iff.mpr w)) _ (I.hok.fresh (Nat.le_refl _))⟩
 exact ⟨by rw [length_append];exact hz,_,r1.append r2,IsTup.new _ _⟩
end
def ixN (n:Nat) (i:Int):Option Nat:=if 0<=i then (if i<n then some i.toNat else none) else if -(n:Int)<=i then some (i+n).toNat else none
def atI {α:Type} (xs:List α) (i:Int):Option α:=(ixN xs.length i).bind fun j=>xs[j]?
theorem ZpS {n:Nat} {i:Int} {j:Nat} (h:ixN n i=some j):seqIndex? i n=some j/\j<n/\ -(n:Int)<=i/\i<n:=by
 unfold ixN at h
 by_cases h0:0<=i
 ·rw [if_pos h0] at h
  by_cases h1:i<n
  ·rw [if_pos h1] at h
   have e:i.toNat=j:=Option.some.inj h
   exact ⟨by rw [seqIndex_of h0 h1,e],by omega,by omega,h1⟩
  ·rw [if_neg h1] at h;cases h
 ·rw [if_neg h0] at h
  by_cases h1: -(n:Int)<=i
  ·rw [if_pos h1] at h
   have e:(i+n).toNat=j:=Option.some.inj h
   exact ⟨by rw [seqIndex_neg (by omega) h1,e],by omega,h1,by omega⟩
  ·rw [if_neg h1] at h;cases h
theorem ZgD {α:Type} {xs:List α} {i:Int} {v:α} (h:atI xs i=some v):∃j,seqIndex? i xs.length=some j/\xs[j]?=some v/\j<xs.length/\ -(xs.length:Int)<=i/\i<xs.length:=by
 unfold atI at h
 cases e:ixN xs.length i with
 |none=>rw [e] at h;cases h
 |some j=>
  rw [e] at h
  obtain ⟨h1,h2,h3,h4⟩:=ZpS e
  exact ⟨j,h1,h,h2,h3,h4⟩
def Zj1 (b:Expr):Prop:=∀o i,subscripted b false o i=operate [o,i] (getItem o i)
def IxR (X:Cx) (r:R2):Prop:=
 ∀(value slice:Expr) (Za:List (Addr×Obj)) (s:Shared) (σ:St) (H:Hp) (x y:V) (v u:Value) (Q:VK),Inv X Za σ H s->Z2 x v->Z2 y u->r x y H Q->
  subscripted slice false v u=operate [v,u] (getItem v u)->wpAny (model X.prog X.w) X.A (subscriptTail value slice v u) (EP X Za σ Q) X.xe s
def MtR (X:Cx) (id:String) (r:V->List V->Hp->VK->Prop):Prop:=
 ∀(Za:List (Addr×Obj)) (s:Shared) (σ:St) (H:Hp) (x:V) (xs:List V) (v:Value) (us:List Value) (Q:VK),Inv X Za σ H s->Z2 x v->ZD xs us->r x xs H Q->
  wpAny (model X.prog X.w) X.A (call (.builtin id) (v::us)) (EP X Za σ Q) X.xe s
section
variable {X:Cx} {a b:Expr} {ta tb:TE} {pos:Pos}
theorem ZX {r:R2} (hr:IxR X r) (ha:PE X a ta) (hb:PE X b tb) (hs:Zj1 b):PE X (.Subscript a b pos) (tOp r ta tb):=by
 intro Za s σ H Q I h
 exact Subscript_ (Zs9 ha hb I h fun v u s2 x y H2 I2 rx ry q=>hr a b Za s2 σ H2 x y v u Q I2 rx ry q (hs _ _))
def ZBe (K:PySem.W.Frag):R2:=fun x y H Q=>∃p xs i v,x=.ref p/\y=.int i/\SqL K H p xs/\atI xs i=some v/\Q v H
def ZAV (K:PySem.W.Frag):R2:=fun x y H Q=>∃p xs i v,x=.ref p/\y=.int i/\SqT K H p xs/\atI xs i=some v/\Q v H
def ZAX:R2:=fun x y H Q=>∃z i c,x=.str z/\y=.int i/\z.length<=sizeLine/\atI z.cps.toList i=some c/\Q (.str ⟨#[c]⟩) H
theorem Zqt:IxR X (ZBe X.K):=by
 intro value slice Za s σ H x y v u Q I rx ry h hs
 obtain ⟨p,xs,i,z,rfl,rfl,hq,he,q⟩:=h
 cases rx
 obtain ⟨t,rfl⟩:=ry
 obtain ⟨its,r,pl,hz⟩:=I.list hq
 obtain ⟨j,h1,h2,h3,h4,h5⟩:=ZgD he
 obtain ⟨w,ew,rw'⟩:=r.get h2
 have hl:=r.length
 have hn:=Zdt
 have fin:EP X Za σ Q w s:=⟨z,H,I,rw',q⟩
 by_cases h0:0<=i
 ·have hj:i.toNat=j:=by
   rw [seqIndex_of h0 h5] at h1
   exact Option.some.inj h1
  exact item_listR pl.isList h0 (by omega) (by rw [hj];simpa using ew) fin hs
 ·have hj:(i+(its.toArray.size:Int)).toNat=j:=by
   rw [seqIndex_neg (by omega) h4] at h1
   rw [size_toArray,<-hl]
   exact Option.some.inj h1
  exact subscriptTail_builtinR (x:=w) pl.isList.typeIs slot_list_getitem.lookup
   (wpAny_getItem_list_neg (Q:=fun r s'=>r=w/\EP X Za σ Q r s') pl.isList (by omega) (by rw [size_toArray]<;>omega) (by omega) (by rw [hj];simpa using ew) ⟨rfl,fin⟩) hs
theorem ZsZ:IxR X (ZAV X.K):=by
 intro value slice Za s σ H x y v u Q I rx ry h hs
 obtain ⟨p,xs,i,z,rfl,rfl,hq,he,q⟩:=h
 cases rx
 obtain ⟨t,rfl⟩:=ry
 obtain ⟨its,r,pl,hz⟩:=I.tuple hq
 obtain ⟨j,h1,h2,h3,h4,h5⟩:=ZgD he
 obtain ⟨w,ew,rw'⟩:=r.get h2
 have hl:=r.length
 have hn:=Zdt
 have fin:EP X Za σ Q w s:=⟨z,H,I,rw',q⟩
 exact subscriptTail_builtinR (x:=w) pl.typeIs slot_tuple_getitem.lookup
  (getItem_tuple (j:=j) (Q:=fun r s'=>r=w/\EP X Za σ Q r s') pl (by omega) (by omega) (by rw [size_toArray,<-hl];exact h1) (by simpa using ew) ⟨rfl,fin⟩) hs
theorem Ztv:IxR X ZAX:=by
 intro value slice Za s σ H x y v u Q I rx ry h hs
 obtain ⟨z,i,c,rfl,rfl,hz,he,q⟩:=h
 obtain ⟨t,rfl⟩:=rx
 obtain ⟨t',rfl⟩:=ry
 obtain ⟨j,h1,h2,h3,h4,h5⟩:=ZgD he
 have hl:z.cps.toList.length=z.length:=by simp [Str.length]
 rw [hl] at h1 h4 h5
 have hn:=Zdt
 exact tail_any (typeIs_str s z t) slot_str_getitem.lookup (getItem_str (c:=c) (by
  have e1:decide (i < -(2 ^ 63:Int))=false:=decide_eq_false (by omega)
  have e2:decide (i ≥ 2 ^ 63)=false:=decide_eq_false (by omega)
  rw [e1,e2,Bool.or_false]) (by rw [h1];simpa using h2) ⟨.str ⟨#[c]⟩,H,I.tok _,⟨_,rfl⟩,q⟩) hs
theorem Zgc (lo hi:Option Int) (n:Nat):(sliceBounds lo hi none n).1=((HT.sIx n 0 lo:Nat):Int)/\(sliceBounds lo hi none n).2.1=((HT.sIx n n hi:Nat):Int)/\(sliceBounds lo hi none n).2.2=1:=by
 refine ⟨?_,?_,rfl⟩
 ·cases lo with
  |none=>simp [sliceBounds,HT.sIx]
  |some i=>
   simp only [sliceBounds,HT.sIx,Option.getD_none,show (1:Int)>0 by decide,if_true]
   by_cases h:i<0
   ·simp only [h,if_true]<;>omega
   ·simp only [h,if_false]<;>omega
 ·cases hi with
  |none=>simp [sliceBounds,HT.sIx]
  |some i=>
   simp only [sliceBounds,HT.sIx,Option.getD_none,show (1:Int)>0 by decide,if_true]
   by_cases h:i<0
   ·simp only [h,if_true]<;>omega
   ·simp only [h,if_false]<;>omega
theorem Zfp (its:List Value) (lo hi:Option Int):slicePick its.toArray lo hi none=((its.drop (HT.sIx its.length 0 lo)).take (HT.sIx its.length its.length hi-HT.sIx its.length 0 lo)).toArray:=by
 obtain ⟨h1,h2,h3⟩:=Zgc lo hi its.toArray.size
 unfold slicePick
 rw [h1,h2,h3]
 simp only [sliceRange_one,pick_run,size_toArray]<;>rfl
def ZBc (K:PySem.W.Frag):V->Option Int->Option Int->Hp->VK->Prop:=fun x lo hi H Q=>∃a xs,x=.ref a/\SqL K H a xs/\∀p,H p=none->Q (.ref p) (upd H p (.lst (Zqk xs lo hi)))
theorem Zp8:SlR X (ZBc X.K):=by
 intro Za s σ H x v vl vu lo hi sl Q I rx hs pl pu h
 obtain ⟨a,xs,rfl,hx,q⟩:=h
 cases rx
 obtain ⟨its,r,ht,hz⟩:=I.list hx
 have hlen:=r.length
 refine ⟨"list",_,slot_list_getitem.lookup,ht.isList.typeIs,?_⟩
 refine wpAny_getItem_list_slice ht.isList hs pl pu .none (by simp) ?_ (by rw [size_toArray]<;>omega)
 rw [Zfp,<-hlen]
 refine ⟨.ref s.heap.objs.size,_,I.laid (t':=s.toks) (o:=.lst (Zqk xs lo hi)) (fun b ob q=>Heap.get?_push_of_some _ q) (Nat.le_refl _) ?_,rfl,q _ (I.hok.fresh (Nat.le_refl _))⟩
 exact ⟨Nat.le_trans (Zib xs lo hi) hz,_,0,(r.drop (HT.sIx xs.length 0 lo)).take (HT.sIx xs.length xs.length hi-HT.sIx xs.length 0 lo),Heap.get?_push_size _ rfl⟩
def Jx:V->Bool
 | .non=>true
 | .bl _=>true
 | .int _=>true
 | .str _=>true
 |_=>false
def eqV:V->V->Bool
 | .non,.non=>true
 | .bl a,.bl b=>a==b
 | .bl a,.int b=>(if a then 1 else 0)==b
 | .int a,.bl b=>a==(if b then 1 else 0)
 | .int a,.int b=>a==b
 | .str a,.str b=>a==b
 |_,_=>false
theorem Zn5 {A:Around} {s:Shared} {y x:V} {u v:Value} (ry:Z2 y u) (rx:Z2 x v) (fy:Jx y=true) (fx:Jx x=true):SeqAt.EqAt A s u v (eqV y x):=by
 cases y with
 |non=>
  cases ry
  cases x with
  |non=>cases rx;exact SeqAt.EqAt.same _
  |bl b=>cases rx;exact SeqAt.EqAt.none_bool b
  |int b=>obtain ⟨t,rfl⟩:=rx;exact SeqAt.EqAt.none_int b t
  |str b=>obtain ⟨t,rfl⟩:=rx;exact SeqAt.EqAt.none_str b t
  |_=>exact absurd (show false=true from fx) Bool.false_ne_true
 |bl a=>
  cases ry
  cases x with
  |non=>cases rx;exact SeqAt.EqAt.bool_none a
  |bl b=>cases rx;exact SeqAt.EqAt.bool_bool a b
  |int b=>obtain ⟨t,rfl⟩:=rx;exact SeqAt.EqAt.bool_int a b t
  |str b=>obtain ⟨t,rfl⟩:=rx;exact SeqAt.EqAt.bool_str a b t
  |_=>exact absurd (show false=true from fx) Bool.false_ne_true
 |int a=>
  obtain ⟨t',rfl⟩:=ry
  cases x with
  |non=>cases rx;exact SeqAt.EqAt.int_none a t'
  |bl b=>cases rx;exact SeqAt.EqAt.int_bool a t' b
  |int b=>obtain ⟨t,rfl⟩:=rx;exact SeqAt.EqAt.int_int a t' b t
  |str b=>obtain ⟨t,rfl⟩:=rx;exact SeqAt.EqAt.int_str a t' b t
  |_=>exact absurd (show false=true from fx) Bool.false_ne_true
 |str a=>
  obtain ⟨t',rfl⟩:=ry
  cases x with
  |non=>cases rx;exact SeqAt.EqAt.str_none a t'
  |bl b=>cases rx;exact SeqAt.EqAt.str_bool a t' b
  |int b=>obtain ⟨t,rfl⟩:=rx;exact SeqAt.EqAt.str_int a t' b t
  |str b=>obtain ⟨t,rfl⟩:=rx;exact SeqAt.EqAt.str_str a t' b t
  |_=>exact absurd (show false=true from fx) Bool.false_ne_true
 |_=>exact absurd (show false=true from fy) Bool.false_ne_true
def eqU (x:V) (u:Value):Bool:=match u with
 | .none=>eqV .non x
 | .bool b=>eqV (.bl b) x
 | .int i _=>eqV (.int i) x
 | .str z _=>eqV (.str z) x
 |_=>false
theorem Zl1 {x y:V} {u:Value} (r:Z2 y u) (f:Jx y=true):eqU x u=eqV y x:=by
 cases y with
 |non=>cases r;rfl
 |bl b=>cases r;rfl
 |int i=>obtain ⟨t,rfl⟩:=r;rfl
 |str z=>obtain ⟨t,rfl⟩:=r;rfl
 |_=>exact absurd (show false=true from f) Bool.false_ne_true
theorem Zgj {x:V}:∀{xs:List V} {us:List Value},ZD xs us->xs.all Jx=true->us.any (eqU x)=xs.any fun y=>eqV y x
 |_,_,.nil,_=>rfl
 |y::xs,u::us,.cons r t,f=>by
  rw [List.all_cons,Bool.and_eq_true] at f
  rw [List.any_cons,List.any_cons,Zl1 r f.1,Zgj t f.2]
theorem Zfl {A:Around} {s:Shared} {x:V} {v:Value} (rx:Z2 x v) (fx:Jx x=true):∀{xs:List V} {us:List Value},ZD xs us->xs.all Jx=true->∀u∈us,SeqAt.EqAt A s u v (eqU x u)
 |_,_,.nil,_=>fun u hu=>by cases hu
 |y::xs,u::us,.cons r t,f=>fun u' hu=>by
  rw [List.all_cons,Bool.and_eq_true] at f
  rcases mem_cons.mp hu with rfl|hu
  ·rw [Zl1 r f.1];exact Zn5 r rx f.1 fx
  ·exact Zfl rx fx t f.2 u' hu
def inV (x:V) (xs:List V):Bool:=xs.any fun y=>eqV y x
def rIn (K:PySem.W.Frag) (neg:Bool):R2:=fun x y H Q=>∃p xs,y=.ref p/\(SqL K H p xs\/SqT K H p xs)/\Jx x=true/\xs.all Jx=true/\Q (.bl (if neg then !inV x xs else inV x xs)) H
theorem Zlf:OpR X (compareOp .In) (rIn X.K false):=by
 intro Za s σ H x y v u Q I rx ry h
 obtain ⟨p,xs,rfl,hq,fx,fs,q⟩:=h
 cases ry
 rcases hq with hq|hq
 ·obtain ⟨its,r,pl,hz⟩:=I.list hq
  refine SeqAt.in_listAt (eqU x) pl.isList (fun w hw=>Zfl rx fx r fs w (by simpa using hw)) ⟨.bl _,H,I,rfl,?_⟩
  rw [show its.toArray.any (eqU x)=its.any (eqU x) by simp,Zgj r fs]
  exact q
 ·obtain ⟨its,r,pl,hz⟩:=I.tuple hq
  refine SeqAt.in_tupleAt (eqU x) pl (fun w hw=>Zfl rx fx r fs w (by simpa using hw)) ⟨.bl _,H,I,rfl,?_⟩
  rw [show its.toArray.any (eqU x)=its.any (eqU x) by simp,Zgj r fs]
  exact q
theorem Zgd:Jc X (.builtin "len") (fun xs H Q=>∃p ys,xs=[.ref p]/\(SqL X.K H p ys\/SqT X.K H p ys)/\Q (.int ys.length) H):=by
 intro Za s σ H xs us Q I r h
 obtain ⟨p,ys,rfl,hq,q⟩:=h
 obtain ⟨u,rfl,rx⟩:=JA r
 cases rx
 have hn:=Zdt
 rcases hq with hq|hq
 ·obtain ⟨its,r',pl,hz⟩:=I.list hq
  have hlen:=r'.length
  exact Calls.call_len_list pl.isList (by simp only [size_toArray]<;>omega) ⟨.int ys.length,H,I.tok _,⟨s.toks+1,by rw [size_toArray,hlen]⟩,q⟩
 ·obtain ⟨its,r',pl,hz⟩:=I.tuple hq
  have hlen:=r'.length
  exact len_tuple pl (by simp only [size_toArray]<;>omega) ⟨.int ys.length,H,I.tok _,⟨s.toks+1,by rw [size_toArray,hlen]⟩,q⟩
theorem ZgM:Jc X (.builtin "len") (fun xs H Q=>∃z,xs=[.str z]/\z.length<=sizeLine/\Q (.int z.length) H):=by
 intro Za s σ H xs us Q I r h
 obtain ⟨z,rfl,hz,q⟩:=h
 obtain ⟨u,rfl,t,rfl⟩:=JA r
 have hn:=Zdt
 exact len_str (by omega) ⟨.int z.length,H,I.tok _,⟨_,rfl⟩,q⟩
theorem ZcO:Jc X (.type "list") (fun xs H Q=>∃p ys,xs=[.ref p]/\(SqL X.K H p ys\/SqT X.K H p ys)/\∀l,H l=none->Q (.ref l) (upd H l (.lst ys))):=by
 intro Za s σ H xs us Q I r h
 obtain ⟨p,ys,rfl,hq,q⟩:=h
 obtain ⟨u,rfl,rx⟩:=JA r
 cases rx
 have fin:∀(its:List Value),ZD ys its->ys.length<=sizeLine->∀(h':Heap) (c':Nat),(∀b o',s.heap.get? b=some o'->h'.get? b=some o')->
  h'.get? s.heap.objs.size=some {cls:=.type "list",dict:=none,data:=.seq its.toArray c',slots:=#[]}->EP X Za σ Q (.ref s.heap.objs.size) {s with heap:=h'}:=fun its r' hz h' c' kp e=>
  ⟨.ref s.heap.objs.size,_,I.laid (t':=s.toks) kp (Nat.le_refl _) (show zD X.prog X.w _ h' _ (.lst ys) from ⟨hz,its,c',r',e⟩),rfl,q _ (I.hok.fresh (Nat.le_refl _))⟩
 rcases hq with hq|hq
 ·obtain ⟨its,r',pl,hz⟩:=I.list hq
  have hlen:=r'.length
  obtain ⟨o,ho,hc,n,hd⟩:=pl.isList
  exact call_list_seq p (.inl rfl) ho hc hd (fun h' c' kp e=>fin its r' hz h' c' kp e) (by simp only [size_toArray]<;>omega)
 ·obtain ⟨its,r',pl,hz⟩:=I.tuple hq
  have hlen:=r'.length
  obtain ⟨o,ho,hc,n,hd⟩:=pl
  exact call_list_seq p (.inr rfl) ho hc hd (fun h' c' kp e=>fin its r' hz h' c' kp e) (by simp only [size_toArray]<;>omega)
def tyV (K:PySem.W.Frag) (T:String) (x:V) (H:Hp):Prop:=match x with
 | .str _=>T="str"
 | .int _=>T="int"
 | .ref p=>(T="list"/\∃xs,SqL K H p xs)\/(T="tuple"/\∃o,K.lookup p=some o/\o.cls=.type "tuple"/\o.dict=none)\/
  (T="dict"/\((∃kvs,H p=some (.dK kvs))\/∃kvs,H p=some (.dT kvs)))\/(T="set"/\∃S n,H p=some (.set S n))
 |_=>False
theorem Ziw {Za:List (Addr×Obj)} {σ:St} {H:Hp} {s:Shared} {T:String} {x:V} {v:Value} (I:Inv X Za σ H s) (r:Z2 x v) (ty:tyV X.K T x H):
 s.TypeIs v T/\∀a,v=.ref a->∃ob,s.heap.get? a=some ob/\ob.dict=none:=by
 cases x with
 |str z=>
  obtain ⟨t,rfl⟩:=r
  cases (show T="str" from ty)
  exact ⟨typeIs_str s z t,fun _ e=>nomatch e⟩
 |int i=>
  obtain ⟨t,rfl⟩:=r
  cases (show T="int" from ty)
  exact ⟨typeIs_int s i t,fun _ e=>nomatch e⟩
 |ref p=>
  cases r
  rcases ty with ⟨rfl,xs,hq⟩|⟨rfl,o,hk,hc,hd⟩|⟨rfl,hk⟩|⟨rfl,S,n,hk⟩
  ·obtain ⟨its,_,pl,_⟩:=I.list hq
   refine ⟨pl.isList.typeIs,fun a e=>?_⟩
   cases e
   obtain ⟨o,n,e,c,hd,_⟩:=pl
   exact ⟨o,e,hd⟩
  ·refine ⟨⟨o,I.kIn p o hk,hc⟩,fun a e=>?_⟩
   cases e
   exact ⟨o,I.kIn _ o hk,hd⟩
  ·have z:∃o,s.heap.get? p=some o/\o.ExactDict:=by
    rcases hk with ⟨kvs,hk⟩|⟨kvs,hk⟩
    ·obtain ⟨_,_,_,_,o,_,_,e,ex,_⟩:=I.hok p _ hk
     exact ⟨o,e,ex⟩
    ·exact False.elim (show zD X.prog X.w H s.heap p (.dT kvs) from I.hok p _ hk)
   obtain ⟨o,e,ex⟩:=z
   refine ⟨⟨o,e,ex.1⟩,fun a e2=>?_⟩
   cases e2
   exact ⟨o,e,ex.2.1⟩
  ·obtain ⟨o,_,_,_,e,ex,_⟩:=I.hok p _ hk
   refine ⟨⟨o,e,ex.1⟩,fun a e2=>?_⟩
   cases e2
   exact ⟨o,e,ex.2.1⟩
 |_=>exact False.elim ty
def ZwK (K:PySem.W.Frag) (T:String) (r:V->List V->Hp->VK->Prop) (to:TE):TE:=fun σ H Q=>to σ H fun x H1=>tyV K T x H1/\r x [] H1 Q
def tBM (K:PySem.W.Frag) (T:String) (r:V->List V->Hp->VK->Prop) (to:TE) (t:TA):TE:=fun σ H Q=>to σ H fun x H1=>tyV K T x H1/\t σ H1 fun xs H2=>r x xs H2 Q
variable {o e:Expr} {es:List Expr} {to:TE} {t:TA} {name:Str} {apos cpos:Pos} {T id:String} {r:V->List V->Hp->VK->Prop}
theorem ZvO (pa:PlainAttrs T) (slot:Slot T name id) (hty:typeOf (.builtin id)=pure (.type "method_descriptor")) (hm:MtR X id r) (ho:PE X o to)
 (hbase:attributeBase o name X.env (eval o X.env)=eval o X.env:=by rfl) (hline:(apos.endLine==cpos.line)=true:=by rfl):PE X (.Call (.Attribute o name apos) [] [] cpos) (ZwK X.K T r to):=by
 intro Za s σ H Q I h
 refine wpAny_Call_method0_late hbase hline (thn (ho Za s σ H _ I h) fun v s1 ⟨x,H1,I1,r1,ty,q1⟩=>?_)
 obtain ⟨h1,h2⟩:=Ziw I1 r1 ty
 exact ⟨T,id,pa,slot,hty,h1,h2,Calls.callWith_builtin rfl (PySem.evalArgs_none (hm Za s1 σ H1 x [] v [] Q I1 r1 .nil q1))⟩
theorem ZzF (pa:PlainAttrs T) (slot:Slot T name id) (hty:typeOf (.builtin id)=pure (.type "method_descriptor")) (hm:MtR X id r) (ho:PE X o to) (ha:PA X (e::es) t)
 (hbase:attributeBase o name X.env (eval o X.env)=eval o X.env:=by rfl)
 (hfew:((backTo cpos (starEach (e::es) X.env)).all (fun x=> !x.1) && (backToKw cpos (keywordEach [] X.env)).all (fun x=>x.1.isSome)
  && decide ((e::es).length+([]:List Keyword).length+(if ([]:List Keyword).isEmpty then 0 else 1)<30))=true:=by rfl)
 (hline:(apos.endLine==cpos.line)=true:=by rfl) (hs:starEach (e::es) X.env=(false,eval e X.env)::starEach es X.env:=by rfl) (hplain:(backTo cpos (starEach es X.env)).any (·.1)=false:=by rfl):
 PE X (.Call (.Attribute o name apos) (e::es) [] cpos) (tBM X.K T r to t):=by
 intro Za s σ H Q I h
 refine wpAny_Call_method_late hbase hfew hline rfl (thn (ho Za s σ H _ I h) fun v s1 ⟨x,H1,I1,r1,ty,q1⟩=>?_)
 obtain ⟨h1,h2⟩:=Ziw I1 r1 ty
 refine ⟨T,id,pa,slot,hty,h1,h2,?_⟩
 have hA:=ha cpos Za s1 σ H1 _ I1 q1
 rw [hs] at hA ⊢
 refine Calls.callWith_builtin (by show (false || (backTo cpos (starEach es X.env)).any (·.1))=false;rw [hplain]<;>rfl) (Calls.evalArgs_plain ?_)
 exact thn hA fun us s2 ⟨vs,H2,I2,r2,q2⟩=>hm Za s2 σ H2 x vs v us Q I2 r1 r2 q2
end
def MtM (X:Cx) (id:String) (r:V->List V->Hp->VK->Prop):Prop:=
 ∀(Za:List (Addr×Obj)) (s:Shared) (σ:St) (H:Hp) (x:V) (xs:List V) (v:Value) (us:List Value) (Q:VK),Inv X Za σ H s->Z2 x v->ZD xs us->r x xs H Q->
  wpAny (model X.prog X.w) X.A (call (.builtin id) (v::us)) (EP X Za σ Q) X.xe s
theorem ZD.one:∀{x:V} {us:List Value},ZD [x] us->∃u,us=[u]/\Z2 x u
 |_,_,.cons r .nil=>⟨_,rfl,r⟩
theorem ZD.zero:∀{us:List Value},ZD [] us->us=[]
 |_,.nil=>rfl
theorem ZD.reverse {xs:List V} {us:List Value} (h:ZD xs us):ZD xs.reverse us.reverse:=by
 induction h with
 |nil=>exact .nil
 |cons r t ih=>rw [List.reverse_cons,List.reverse_cons];exact ZD.append ih (.cons r .nil)
theorem ZD.rep {xs:List V} {us:List Value} (h:ZD xs us):∀k:Nat,ZD (List.replicate k xs).flatten (List.replicate k us).flatten
 |0=>.nil
 |k+1=>by
  rw [replicate_succ,replicate_succ,List.flatten_cons,List.flatten_cons]
  exact ZD.append h (ZD.rep h k)
theorem ZfD (its:List Value):∀(k:Nat) (acc:List Value),
 List.foldl (fun x1 x2=>x1++x2) acc.toArray (List.replicate k its.toArray)=(acc++(List.replicate k its).flatten).toArray
 |0,acc=>by simp
 |k+1,acc=>by
  have e:acc.toArray++its.toArray=(acc++its).toArray:=by simp
  have e2:(acc++its)++(List.replicate k its).flatten=acc++(List.replicate (k+1) its).flatten:=by
   rw [replicate_succ,List.flatten_cons,append_assoc]
  rw [<-e2,<-ZfD its k (acc++its),<-e,replicate_succ,List.foldl_cons]
section
variable {X:Cx} {Za:List (Addr×Obj)} {σ:St} {H:Hp} {s:Shared} {l b:Addr} {xs ys zs:List V}
theorem Inv.lset {its its':List Value} {n:Nat} {f:Array Value->Array Value} {t':Nat} (I:Inv X Za σ H s) (hH:H l=some (.lst xs))
 (e:s.heap.get? l=some {cls:=.type "list",data:=.seq its.toArray n}) (hf:f its.toArray=its'.toArray) (hv:ZD ys its') (hz:ys.length<=sizeLine):
 Inv X Za σ (upd H l (.lst ys)) {s with heap:=s.heap.update l (Obj.mapSeq f),toks:=t'}:=by
 have q:=PySem.IsL.update e f
 rw [hf] at q
 refine I.write (x:=l) (e:=l) (by rw [hH];exact trivial) (.inl rfl) (fun b' u hb hu=>(Heap.get?_update_other s.heap (Obj.mapSeq f) (Ne.symm hb)).trans hu) ⟨_,q⟩ ?_
 exact ⟨hz,its',_,hv,q⟩
theorem Inv.lnew {its:List Value} {t':Nat} (I:Inv X Za σ H s) (hv:ZD ys its) (hz:ys.length<=sizeLine):
 Inv X Za σ (upd H s.heap.objs.size (.lst ys)) {s with heap:=s.heap.push {cls:=.type "list",data:=.seq its.toArray},toks:=t'}:=
 I.laid (fun _ _ q=>Heap.get?_push_of_some _ q) (Nat.le_refl _) ⟨hz,its,0,hv,Heap.get?_push_size _ rfl⟩
theorem Inv.fresh (I:Inv X Za σ H s):H s.heap.objs.size=none:=I.hok.fresh (Nat.le_refl _)
theorem Inv.lstM (I:Inv X Za σ H s) (hH:H l=some (.lst xs)):xs.length<=sizeLine/\∃(its:List Value) (n:Nat),ZD xs its/\xs.length=its.length/\s.heap.get? l=some {cls:=.type "list",data:=.seq its.toArray n}:=by
 obtain ⟨z,its,n,r,e⟩:=I.hok l _ hH
 exact ⟨z,its,n,r,r.length,e⟩
theorem ZlX {n:Nat} (h:n<=sizeLine):Builtin.List.listTooLong n=false:=by
 unfold Builtin.List.listTooLong
 exact decide_eq_false (by omega)
end
section
variable {X:Cx}
def ZaK:V->List V->Hp->VK->Prop:=fun x vs H Q=>∃l xs y,x=.ref l/\vs=[y]/\H l=some (.lst xs)/\xs.length<sizeLine/\Q .non (upd H l (.lst (xs++[y])))
theorem Zaj:MtM X "list.append" ZaK:=by
 intro Za s σ H x vs v us Q I rx rv h
 obtain ⟨l,xs,y,rfl,rfl,hH,hz,q⟩:=h
 cases rx
 obtain ⟨u,rfl,ru⟩:=rv.one
 obtain ⟨z,its,n,r,hl,e⟩:=I.lstM hH
 refine call_meets F.slot_list_append ⟨_,e,rfl⟩ F.entry_list_append (F.args_list_append_2 _ _) (PySem.list_append l its.toArray n u (by rw [size_toArray];omega)) ⟨e,?_⟩
 refine ⟨.non,_,I.lset (its':=its++[u]) hH e (by simp) (r.append (.cons ru .nil)) ?_,rfl,q⟩
 rw [length_append,length_singleton]
 omega
def Zhg:V->List V->Hp->VK->Prop:=fun x vs H Q=>∃l xs,x=.ref l/\vs=[]/\H l=some (.lst xs)/\Q .non (upd H l (.lst xs.reverse))
theorem Zip:MtM X "list.reverse" Zhg:=by
 intro Za s σ H x vs v us Q I rx rv h
 obtain ⟨l,xs,rfl,rfl,hH,q⟩:=h
 cases rx
 have hus:=rv.zero
 subst hus
 obtain ⟨z,its,n,r,hl,e⟩:=I.lstM hH
 refine call_meets F.slot_list_reverse ⟨_,e,rfl⟩ F.entry_list_reverse (F.args_list_reverse_1 _) (AutoSeq1.list_reverse_list_0 l its.toArray n (by rw [size_toArray];omega)) ⟨e,?_⟩
 refine ⟨.non,_,I.lset (its':=its.reverse) hH e (by simp) r.reverse ?_,rfl,q⟩
 rw [length_reverse]
 omega
def Zgz:R2:=fun x y H Q=>∃l b xs zs,x=.ref l/\y=.ref b/\H l=some (.lst xs)/\H b=some (.lst zs)/\xs.length+zs.length<=sizeLine/\∀p,H p=none->Q (.ref p) (upd H p (.lst (xs++zs)))
theorem Zva:OpR X (binaryOp .Add) Zgz:=by
 intro Za s σ H x y v u Q I rx ry h
 obtain ⟨l,b,xs,zs,rfl,rfl,hH,hB,hz,q⟩:=h
 cases rx
 cases ry
 obtain ⟨z,its,n,r,hl,e⟩:=I.lstM hH
 obtain ⟨z2,its2,n2,r2,hl2,e2⟩:=I.lstM hB
 refine PySem.P.add_list e e2 ?_ (by rw [size_toArray,size_toArray];omega)
 have ea:its.toArray++its2.toArray=(its++its2).toArray:=by simp
 rw [ea]
 exact ⟨.ref _,_,I.lnew (t':=s.toks) (r.append r2) (by rw [length_append];omega),rfl,q _ I.fresh⟩
def ZmH:R2:=fun x y H Q=>∃l k xs,x=.ref l/\y=.int k/\H l=some (.lst xs)/\ -(2 ^ 63)<=k/\k<2 ^ 63/\xs.length * k.toNat<=sizeLine/\
 ∀p,H p=none->Q (.ref p) (upd H p (.lst (List.replicate k.toNat xs).flatten))
theorem ZpW {α:Type} (xs:List α) (k:Nat):(List.replicate k xs).flatten.length=k * xs.length:=by
 induction k with
 |zero=>simp
 |succ k ih=>rw [replicate_succ,List.flatten_cons,length_append,ih,Nat.succ_mul,Nat.add_comm]
theorem Zv6:OpR X (binaryOp .Mult) ZmH:=by
 intro Za s σ H x y v u Q I rx ry h
 obtain ⟨l,k,xs,rfl,rfl,hH,h1,h2,hz,q⟩:=h
 cases rx
 obtain ⟨t,rfl⟩:=ry
 obtain ⟨z,its,n,r,hl,e⟩:=I.lstM hH
 have hlen:its.toArray.size * k.toNat<=sizeLine:=by rw [size_toArray,<-hl];exact hz
 have hcap:¬its.toArray.size * k.toNat>(2 ^ 63-1)/8:=by
  have:(sizeLine:Nat)<=(2 ^ 63-1)/8:=by decide
  omega
 have hfit:¬(!Builtin.List.listFitsIndex k)=true:=by
  rw [fitsIndex_both h1 h2]
  exact Bool.false_ne_true
 have hlong:¬Builtin.List.listTooLong (its.toArray.size * k.toNat)=true:=by
  rw [ZlX hlen]
  exact Bool.false_ne_true
 have hnew:List.foldl (fun x1 x2=>x1++x2) #[] (List.replicate (if its.toArray.isEmpty=true then 0 else k.toNat) its.toArray)=(List.replicate k.toNat its).flatten.toArray:=by
  have f0:∀m:Nat,List.foldl (fun x1 x2=>x1++x2) #[] (List.replicate m its.toArray)=(List.replicate m its).flatten.toArray:=fun m=>by
   have:=ZfD its m []
   rw [nil_append] at this
   exact this
  rw [f0]
  cases its with
  |nil=>simp
  |cons a r'=>rw [if_neg (by simp)]
 refine wpAny_binaryOp_repeat_ref (T:="list") (U:="int") (by decide) ⟨_,e,rfl⟩ (fun s'=>typeIs_int s' k t) noFill_list_mul F.fills_int_mul F.slot_int_rmul repeat_list F.slot_int_index.lookup
  (call_meets F.slot_int_rmul (typeIs_int s k t) F.entry_int_rmul (F.args_int_rmul_2 _ _) (int___rmul___int_list k t l its.toArray n)
   ⟨e,rfl,⟨_,e,rfl⟩,call_meets F.slot_list_mul ⟨_,e,rfl⟩ F.entry_list_mul (F.args_list_mul_2 _ _) (AutoListH.list___mul___list_int_3 l its.toArray n k t hfit hcap hlong) ⟨e,?_⟩⟩)
 rw [hnew]
 exact ⟨.ref _,_,I.lnew (t':=s.toks) (r.rep k.toNat) (by rw [ZpW,Nat.mul_comm];exact hz),rfl,q _ I.fresh⟩
end
end L2
namespace Att
open PySem PySem.W PySem.Calls PyProof.Rows
theorem Zd5 {P:Params} {h:Heap}:∀(ns:List Int) (vs:List Value),WellAll P h vs (ns.map WData.int)->IntsAre vs ns:=by
 intro ns
 induction ns with
 |nil=>
  intro vs w
  rw [map_nil] at w
  cases w
  exact .nil
 |cons n ns ih=>
  intro vs w
  rw [map_cons] at w
  cases w with
  |cons a b=>
   cases a
   exact .cons _ _ (ih _ b)
theorem Zk2 {l:OpenLaw} {n:Nat} (hn:l.most=some n) {P:Params} {h:Heap} {args:List WData} {vals:List Value}
 (hpre:l.row.toRowW.claim.pre args=true) (hwl:WellAll P h vals args):
 ∃a vs ns,vals=[Value.ref a]/\args=[WData.list (ns.map WData.int)]/\h.get? a=some {cls:=.type "list",data:=.seq vs.toArray}/\IntsAre vs ns/\ns.length<=n:=by
 have hsh:WShape.hasAll [] args [.list .int]=true:=(pre_splitW hpre).1
 have hc:l.pre.holds [] {args:=args}=true:=(pre_splitW hpre).2
 obtain ⟨d,r,rfl,h1,h2⟩:=hasAllW_cons hsh
 obtain rfl:=hasAllW_nil h2
 obtain ⟨xs,rfl,h3⟩:=hasW_list h1
 obtain ⟨ns,rfl⟩:=items_int h3
 have hlen:ns.length<=n:=by
  unfold OpenLaw.pre at hc
  have h4:(WTm.not (.lt (.lit (.int (n:Int))) (.len (.arg 0)))).holds [] {args:=[.list (ns.map .int)]}=true:=by
   have h4:=(holds_andW hc).1
   rw [hn] at h4
   exact h4
  have h5:=condW_of h4 (w_not (w_lt w_lit (w_len_list (w_arg rfl))))
  rw [length_map] at h5
  refine Nat.le_of_not_lt fun q=>?_
  have q':(n:Int)<((ns.length:Nat):Int):=by omega
  first
   |(rw [decide_eq_true q'] at h5;exact absurd h5 (by decide))
   |(simp at h5;omega)
 cases hwl with
 |cons w1 w2=>
  cases w2
  cases w1 with
  |list ho hall=>exact ⟨_,_,ns,rfl,rfl,ho,Zd5 ns _ hall,hlen⟩
theorem Zkx (l:OpenLaw) (args:List WData):l.row.toRowW.claim.post args (.bool true) args=true:=
 postW_of (r:=l.row.toRowW) (X:=(true==true))
  (show WShape.has [] (.bool true) .bool=true by first|rfl|decide|simp [WShape.has,WShape.arms,WShape.armsAll])
  (show (WTm.eq .res (.lit (.bool true))).value [] {args:=args,res:=some (.bool true),after:=args}=some (.bool (true==true)) from w_eq_bool (w_res rfl) w_lit) rfl
theorem ZhJ {l:OpenLaw} {n:Nat} {q:Program} {loose:List Str} {XP:(Str->Option Value)->Heap->Prop} {YP:World->Heap->Prop} {d:DefRec}
 (hn:l.most=some n) (hdf:d.params.defaults=[])
 (call:∀(w:World) (s₀ s₁:Shared) (mg mb:Str->Option Value) (fa:Addr) (o:Obj) (pm cd doc:Value) (a:Addr) (vs:List Value) (ns:List Int),
  Ground q loose [] XP w s₀ mg mb s₁.heap->YP w s₁.heap->
  s₁.heap.get? fa=some o->o.data=.func (docDef d.name d.params d.body d.scope pm cd doc)->s₁.heap.CodeRec cd d.name->mg d.name=some (.ref fa)->
  s₁.heap.get? a=some {cls:=.type "list",data:=.seq vs.toArray}->IntsAre vs ns->ns.length<=n->s₁.gens=#[]->
  codeAny (model l.prog w) callerA (.call (.ref fa) ⟨[.ref a],[]⟩) (fun r s'=>r=.ok (.ret (.bool true))/\OldK s₁.heap s'.heap/\s'.os=s₁.os/\AllBare s'.gens) s₁):
 WalkO q loose XP YP l.row.toRowW d [] (fun f vs=>PySem.call f vs):=by
 intro w s₀ s₁ mg mb G Y fa o pm cd doc dV kV ho hd hcd hD hmg hg args vals as hpre hlay hrd hwl hlo
 obtain rfl:dV=.none:=Dflts.none hD hdf
 obtain rfl:kV=.none:=Dflts.noKw hD
 obtain ⟨a,vs,ns,rfl,rfl,hobj,hints,hlen⟩:=Zk2 hn hpre hwl
 refine enter_call (codeAny_mono (call w s₀ s₁ mg mb fa o pm cd doc a vs ns G Y ho (fd_plain hd) hcd hmg hobj hints hlen hg) fun r s' hq=>?_)
 obtain ⟨rfl,h2,h3,h4⟩:=hq
 exact ⟨.inl ⟨.bool true,.bool true,[],rfl,fun _=>rfl,.bool true,Zkx l _,fun _=>⟨List.Pairwise.nil,fun _ hm=>(nomatch hm)⟩⟩,h2,h3,h4⟩
end Att
namespace L2
open PySem PySem.Spec PyProof.Rows
theorem ZfU:∀{vs:List Value} {ns:List Int},IntsAre vs ns->ZD (ns.map V.int) vs
 |_,_,.nil=>.nil
 |_,_,.cons n t h=>.cons ⟨t,rfl⟩ (ZfU h)
def ZB (s:Stmt):Arguments:=match s with
 | .FunctionDef _ a _ _ _ _ _ _ _ _=>a
 |_=> {posonlyargs:=[],args:=[],vararg:=none,kwonlyargs:=[],kw_defaults:=[],kwarg:=none,defaults:=[]}
def Zy (s:Stmt):List Stmt:=match s with
 | .FunctionDef _ _ b _ _ _ _ _ _ _=>b
 |_=>[]
def Zk (s:Stmt):Scope:=match s with
 | .FunctionDef _ _ _ _ _ _ sc _ _ _=>sc
 |_=> {kind:=.function,names:=[],isGenerator:=false,isCoroutine:=false}
abbrev CX0:CXT:=fun _ _ _ _ _ _=>False
abbrev E0:XK:=fun _ _ _=>False
theorem ZmC {X:Cx}:Zdw CX0 X E0:=fun _ _ _ _ _ _ _ h=>h.elim
structure Fun (K:PySem.W.Frag) (x qual:Str) (st:Stmt) (f:Addr) (fd:FuncData):Prop where
 ex:∃(oc:Value) (od:Option Addr) (kV doc pm:Value) (an:Option Addr) (cdv ct:Value) (osl:Array (Option Value)),
  fd=fnOf x qual (ZB st) (Zy st) (Zk st) .none kV doc pm an cdv ct/\K.lookup f=some ⟨oc,od,.func fd,osl⟩/\codeIn K cdv qual=true
 kp:keepIn K (.ref f)=true
section
variable {P:Program} {w:World} {K:PySem.W.Frag} {mg:Str->Option Value} {base:Heap}
theorem Fun.ok {x qual:Str} {st:Stmt} {f:Addr} {fd:FuncData} {N ps:List Str} {k:Nat} {sp:Sp} (F:Fun K x qual st f fd) (S:ZA N ps (Zk st)) (len:∀vs H Q E,sp vs H Q E->vs.length=ps.length)
 (hbody:∀(cdv:Value) (A:Around) (outer:List Env) (s:Shared) (H:Hp) (vs:List V) (Q:VK) (E:XK),YD k (A.deeper (envOfC qual (Zk st) s.heap.objs.size f cdv))->sp vs H Q E->
  ∃t,PSs (Zav CX0 P w K mg base N qual (Zk st) f cdv A outer s H E).nox (Zy st) t/\t {nx:=fun _ H'=>Q .non H',rt:=Q} (ZR N vs) H):Z4 P w K mg base CX0 (k+1) f fd ps sp:=by
 obtain ⟨oc,od,kV,doc,pm,an,cdv,ct,osl,rfl,lk,hcd⟩:=F.ex
 refine Zjq lk hcd S len fun A outer s H vs Q E hr hsp=>?_
 obtain ⟨t,h,q⟩:=hbody cdv A outer s H vs Q E hr hsp
 exact ⟨t,h.nox,q⟩
theorem Fun.binds {x qual:Str} {st:Stmt} {f:Addr} {fd:FuncData} {ps:List Str} (F:Fun K x qual st f fd)
 (h:∀(kV doc pm:Value) (an:Option Addr) (cdv ct:Value) (us:List Value),us.length=ps.length->bindArgs (fnOf x qual (ZB st) (Zy st) (Zk st) .none kV doc pm an cdv ct) ⟨us,[]⟩=pure (ps.zip us)):J8 K fd ps []:=by
 obtain ⟨oc,od,kV,doc,pm,an,cdv,ct,osl,rfl,lk,hcd⟩:=F.ex
 exact .all (h kV doc pm an cdv ct)
theorem ZU {x qual:Str} {st:Stmt} {f:Addr} {oc:Value} {od an:Option Addr} {osl:Array (Option Value)} {kV doc pm cdv ct:Value} (l:K.lookup f=some ⟨oc,od,.func (fnOf x qual (ZB st) (Zy st) (Zk st) .none kV doc pm an cdv ct),osl⟩)
 (c:codeIn K cdv qual=true) (k:keepIn K (.ref f)=true):Fun K x qual st f (fnOf x qual (ZB st) (Zy st) (Zk st) .none kV doc pm an cdv ct):=⟨⟨oc,od,kV,doc,pm,an,cdv,ct,osl,rfl,l,c⟩,k⟩
end
theorem Y7 {A:Around} {k:Nat} (hr:YD k A):A.units+1<cLine:=Nat.lt_of_le_of_lt (Nat.add_le_add_left (by decide:1<=64) _) hr.units
section
variable {X:Cx}
theorem pv (i:Nat) {x:Str} {pos:Pos} (hN:X.N[i]?=some x:=by rfl) (hv:Vis X.env.scope x:=by first|exact Or.inl rfl|exact Or.inr (Or.inl rfl)|exact Or.inr (Or.inr rfl)) (hd:(x==("__debug__":Str))=false:=by decide)
 (hcd:(x==("__classdict__":Str))=false:=by decide):PE X (.Name x pos) (ZyV i):=ZsG hN hv hd hcd
end
theorem Zd0 {A B:Prop} (h:B):if false=true then A else B:=by
 rw [if_neg Bool.false_ne_true]
 exact h
theorem Zht {A B:Prop} (h:A):if true=true then A else B:=by
 rw [if_pos rfl]
 exact h
theorem z7 {c A B:Prop} [Decidable c] (h1:c->A) (h2:¬c->B):if c then A else B:=by
 by_cases h:c
 ·rw [if_pos h]
  exact h1 h
 ·rw [if_neg h]
  exact h2 h
def Zw (H H':Hp):Prop:=∀b o,H b=some o->H' b=some o
theorem Zw.refl (H:Hp):Zw H H:=fun _ _ h=>h
theorem Zw.trans {H H1 H2:Hp} (a:Zw H H1) (b:Zw H1 H2):Zw H H2:=fun c o h=>b c o (a c o h)
theorem Zw.free {H H':Hp} (e:Zw H H') {l:Addr} (h:H' l=Option.none):H l=Option.none:=by
 cases q:H l with
 |none=>rfl
 |some o=>
  rw [e l o q] at h
  cases h
theorem Zw.seq {K:PySem.W.Frag} {H H':Hp} {a:Addr} {xs:List V} (e:Zw H H') (h:SqL K H a xs):SqL K H' a xs:=by
 rcases h with (h|⟨o,h⟩)|h
 ·exact .inl (.inl (e _ _ h))
 ·exact .inl (.inr ⟨o,e _ _ h⟩)
 ·exact .inr h
def T (l:List Nat):Str:=⟨l.toArray⟩
def L (z:Str):List Nat:=z.cps.toList
theorem L_T (l:List Nat):L (T l)=l:=by
 unfold L T
 simp
theorem T_L (z:Str):T (L z)=z:=by
 cases z
 simp [T,L]
theorem Z8 (z:Str):(L z).length=z.length:=by simp [L,Str.length]
theorem Zjk (l:List Nat):(T l).length=l.length:=by simp [T,Str.length]
theorem ZhE (a b:List Nat):T a++T b=T (a++b):=by
 show Str.append (T a) (T b)=T (a++b)
 simp [Str.append,T]
theorem ZcI {a b:List Nat}:T a=T b↔a=b:=by
 constructor
 ·intro h
  have:=congrArg L h
  rwa [L_T,L_T] at this
 ·intro h
  rw [h]
def gS:St->Nat->Option V
 |[],_=>none
 |a::_,0=>a
 |_::r,n+1=>gS r n
theorem Zfi:∀{σ:St} {i:Nat} {v:V},gS σ i=some v->σ[i]?=some (some v)
 |[],_,_,h=>by simp [gS] at h
 |a::_,0,v,h=>by
  have h:a=some v:=h
  simp [h]
 |_::r,n+1,v,h=>by
  have h:gS r n=some v:=h
  simpa using Zfi h
def ZE (i:Nat):TE:=fun σ H Q=>match gS σ i with
 |some v=>Q v H
 |none=>False
section
variable {X:Cx}
theorem qv (i:Nat) {x:Str} {pos:Pos} (hN:X.N[i]?=some x:=by rfl) (hv:Vis X.env.scope x:=by first|exact Or.inl rfl|exact Or.inr (Or.inl rfl)|exact Or.inr (Or.inr rfl)) (hd:(x==("__debug__":Str))=false:=by decide)
 (hcd:(x==("__classdict__":Str))=false:=by decide):PE X (.Name x pos) (ZE i):=by
 intro Za s σ H Q I h
 refine pv i hN hv hd hcd Za s σ H Q I ?_
 unfold ZE at h
 cases e:gS σ i with
 |none=>rw [e] at h;exact h.elim
 |some v=>rw [e] at h;exact ⟨v,Zfi e,h⟩
def Y5:R2:=fun x y H Q=>match x,y with
 | .int i,.int j=>Q (.int (i+j)) H
 | .str a,.str b=>(L a).length+(L b).length<=sizeLine/\Q (.str (T (L a++L b))) H
 | .ref l,.ref b=>Zgz (.ref l) (.ref b) H Q
 |_,_=>False
theorem ZN:OpR X (binaryOp .Add) Y5:=by
 intro Za s σ H x y v u Q I rx ry h
 cases x<;>cases y<;>first
  |exact False.elim h
  |exact ZrY Za s σ H _ _ v u Q I rx ry ⟨_,_,rfl,rfl,h⟩
  |exact Zva Za s σ H _ _ v u Q I rx ry h
  |(refine Zin Za s σ H _ _ v u Q I rx ry ⟨_,_,rfl,rfl,?_,?_⟩
    ·rw [<-Z8,<-Z8];exact h.1
    ·rename_i a b
     have e:=ZhE (L a) (L b)
     rw [T_L,T_L] at e
     rw [e];exact h.2)
theorem Zmr:OpR X (inplaceOp .Add) (fun x y H Q=>match x,y with
 | .int i,.int j=>Q (.int (i+j)) H
 | .str a,.str b=>(L a).length+(L b).length<=sizeLine/\Q (.str (T (L a++L b))) H
 |_,_=>False):=by
 intro Za s σ H x y v u Q I rx ry h
 cases x<;>cases y<;>first
  |exact False.elim h
  |exact ZqC Za s σ H _ _ v u Q I rx ry ⟨_,_,rfl,rfl,h⟩
  |(refine ZhO Za s σ H _ _ v u Q I rx ry ⟨_,_,rfl,rfl,?_,?_⟩
    ·rw [<-Z8,<-Z8];exact h.1
    ·rename_i a b
     have e:=ZhE (L a) (L b)
     rw [T_L,T_L] at e
     rw [e];exact h.2)
def JZ (C:Int->Int->Prop) (g:Int->Int->V):R2:=fun x y H Q=>match x,y with
 | .int i,.int j=>C i j/\Q (g i j) H
 |_,_=>False
def Jg (g:Int->Int->V):R2:=fun x y H Q=>match x,y with
 | .int i,.int j=>Q (g i j) H
 |_,_=>False
theorem Zi0 {f:Value->Value->Sem Value} {C:Int->Int->Prop} {g:Int->Int->V} (h:OpR X f (rI C g)):OpR X f (JZ C g):=by
 intro Za s σ H x y v u Q I rx ry q
 cases x<;>cases y<;>first
  |exact False.elim q
  |exact h Za s σ H _ _ v u Q I rx ry ⟨_,_,rfl,rfl,q.1,q.2⟩
theorem ZgQ {f:Value->Value->Sem Value} {g:Int->Int->V} (h:OpR X f (rI0 g)):OpR X f (Jg g):=by
 intro Za s σ H x y v u Q I rx ry q
 cases x<;>cases y<;>first
  |exact False.elim q
  |exact h Za s σ H _ _ v u Q I rx ry ⟨_,_,rfl,rfl,q⟩
abbrev ZkF:R2:=Jg fun i j=>.int (i-j)
theorem ZeD:OpR X (binaryOp .Sub) ZkF:=ZgQ Ztf
abbrev ZeP:R2:=JZ (fun _ j=>0<j) fun i j=>.int (i%j)
theorem YQ:OpR X (binaryOp .Mod) ZeP:=Zi0 Zvj
abbrev ZrA:R2:=JZ ZAh fun i j=>.int (i/j)
theorem ZmS:OpR X (binaryOp .FloorDiv) ZrA:=Zi0 Zql
abbrev ZAG:R2:=JZ ZAi fun i j=>.int (i ^ j.toNat)
theorem Zzg:OpR X (binaryOp .Pow) ZAG:=Zi0 Zs0
def rep (n:Nat) (l:List Nat):List Nat:=(List.replicate n l).flatten
theorem ZkJ (c:List (Array Nat)):∀a:Array Nat,(c.foldl (fun x y=>x++y) a).toList=a.toList++(c.map Array.toList).flatten:=by
 induction c with
 |nil=>intro a;simp
 |cons x r ih=>intro a;simp [ih]
theorem Zz6 (z:Str) (n:Int):Txt.mul z n=T (rep n.toNat (L z)):=by
 unfold Txt.mul rep
 by_cases h1:n<1
 ·rw [if_pos h1]
  have:n.toNat=0:=by omega
  rw [this]
  rfl
 ·rw [if_neg h1]
  by_cases h2:(n==1 || z.length==0)=true
  ·rw [if_pos h2]
   rcases Bool.or_eq_true _ _|>.mp h2 with e|e
   ·have:n=1:=by simpa using e
    subst this
    show z=T (List.flatten [L z])
    simp [T_L]
   ·have e0:z.length=0:=by simpa using e
    have e1:L z=[]:=List.eq_nil_of_length_eq_zero (by rw [Z8];exact e0)
    rw [e1]
    have e2:z=T []:=by rw [<-e1,T_L]
    rw [e2]
    congr 1
    simp
  ·rw [if_neg h2]
   have e:=ZkJ (List.replicate n.toNat z.cps) #[]
   rw [<-T_L ⟨_⟩]
   congr 1
   show (List.foldl (fun x y=>x++y) #[] (List.replicate n.toNat z.cps)).toList=_
   rw [e]
   simp [L]
def Zig:R2:=fun x y H Q=>match x,y with
 | .int i,.int j=>Zqj i j/\Q (.int (i * j)) H
 | .str a,.int n=>(-(2 ^ 63)<=n/\n<2 ^ 63/\(L a).length * n.toNat<=sizeLine)/\Q (.str (T (rep n.toNat (L a)))) H
 | .ref l,.int k=>ZmH (.ref l) (.int k) H Q
 |_,_=>False
theorem ZfR:OpR X (binaryOp .Mult) Zig:=by
 intro Za s σ H x y v u Q I rx ry h
 cases x<;>cases y<;>first
  |exact False.elim h
  |exact Zxc Za s σ H _ _ v u Q I rx ry ⟨_,_,rfl,rfl,h.1,h.2⟩
  |exact Zv6 Za s σ H _ _ v u Q I rx ry h
  |(rename_i a n
    obtain ⟨t,e⟩:=rx
    obtain ⟨t',e'⟩:=ry
    subst e e'
    obtain ⟨⟨h1,h2,h3⟩,q⟩:=h
    rw [Z8] at h3
    have hl:sizeLine=16777216:=sizeLine_eq
    refine SB.mul ⟨?_,fun h4 h5=>?_,fun h4 h5=>?_⟩ fun t' k=>?_
    ·rw [decide_eq_false (by omega),decide_eq_false (by omega)];rfl
    ·intro h6
     have h7:n<=(a.length:Int) * n:=by
      have h8:a.length≠0:=by
       intro z
       rw [z] at h5
       simp at h5
      have h9:(1:Int)<=(a.length:Int):=by omega
      calc n=1 * n:=by omega
       _<=(a.length:Int) * n:=Int.mul_le_mul_of_nonneg_right h9 (by omega)
     have h10:(a.length:Int) * n<=16777216:=by
      have:((a.length * n.toNat:Nat):Int)<=16777216:=by omega
      rw [Int.natCast_mul,Int.toNat_of_nonneg (by omega)] at this
      exact this
     have h11:(a.length:Int)<=(2 ^ 63-1)/n:=by
      rw [Int.le_ediv_iff_mul_le (by omega)]
      omega
     omega
    ·unfold Builtin.Str.tooLong
     exact decide_eq_false (by omega)
    ·exact ⟨.str (T (rep n.toNat (L a))),H,I.tok _,⟨_,by rw [Zz6]⟩,q⟩)
def ltV:R2:=fun x y H Q=>match x,y with
 | .int i,.int j=>Q (.bl (decide (i<j))) H
 | .str a,.str b=>Q (.bl (decide (L a<L b))) H
 |_,_=>False
theorem Zfw:OpR X (compareOp .Lt) ltV:=by
 intro Za s σ H x y v u Q I rx ry h
 cases x<;>cases y<;>first
  |exact False.elim h
  |exact ZzX Za s σ H _ _ v u Q I rx ry ⟨_,_,rfl,rfl,h⟩
  |exact ZkW Za s σ H _ _ v u Q I rx ry ⟨_,_,rfl,rfl,h⟩
abbrev leV:R2:=Jg fun i j=>.bl (decide (i<=j))
abbrev gtV:R2:=Jg fun i j=>.bl (decide (j<i))
theorem Zyh:OpR X (compareOp .LtE) leV:=ZgQ Zyv
theorem Zd4:OpR X (compareOp .Gt) gtV:=ZgQ ZzS
def sc:V->V->Option Bool
 | .int i,.int j=>some (decide (i=j))
 | .str a,.str b=>some (decide (L a=L b))
 | .bl a,.bl b=>some (decide (a=b))
 | .non,.non=>some true
 | .non,.int _=>some false| .int _,.non=>some false| .non,.bl _=>some false| .bl _,.non=>some false| .non,.str _=>some false| .str _,.non=>some false
 | .int _,.str _=>some false| .str _,.int _=>some false| .bl _,.str _=>some false| .str _,.bl _=>some false
 |_,_=>none
theorem ZAo {a b:Str}:L a=L b↔a=b:=by
 constructor
 ·intro h
  rw [<-T_L a,<-T_L b,h]
 ·intro h
  rw [h]
theorem Zrz {x y:V} {b:Bool} (h:sc x y=some b):Zso x y=true/\b=decide (x=y):=by
 cases x<;>cases y<;>first
  |exact (nomatch (show (none:Option Bool)=some b from h))
  |(have h:=Option.some.inj h
    subst h
    refine ⟨rfl,?_⟩
    simp [ZAo])
def eqR:R2:=fun x y H Q=>match sc x y with
 |some b=>Q (.bl b) H
 |none=>False
def neR:R2:=fun x y H Q=>match sc x y with
 |some b=>Q (.bl (!b)) H
 |none=>False
theorem Zc7:OpR X (compareOp .Eq) eqR:=by
 intro Za s σ H x y v u Q I rx ry h
 unfold eqR at h
 cases e:sc x y with
 |none=>rw [e] at h;exact h.elim
 |some b=>
  rw [e] at h
  obtain ⟨h1,h2⟩:=Zrz e
  subst h2
  exact Zyd Za s σ H x y v u Q I rx ry ⟨h1,h⟩
theorem Zfr:OpR X (compareOp .NotEq) neR:=by
 intro Za s σ H x y v u Q I rx ry h
 unfold neR at h
 cases e:sc x y with
 |none=>rw [e] at h;exact h.elim
 |some b=>
  rw [e] at h
  obtain ⟨h1,h2⟩:=Zrz e
  subst h2
  exact ZxW Za s σ H x y v u Q I rx ry ⟨h1,h⟩
def isV:R2:=fun x y H Q=>match y,x with
 | .non,x=>Q (.bl (decide (x=.non))) H
 | .bl b,.bl c=>Q (.bl (c==b)) H
 |_,_=>False
theorem Zx5:OpR X (compareOp .Is) isV:=by
 intro Za s σ H x y v u Q I rx ry h
 cases y with
 |non=>exact Zxw Za s σ H x _ v u Q I rx ry ⟨rfl,h⟩
 |bl b=>
  cases x with
  |bl c=>
   cases rx
   cases ry
   exact is_bool (ZV I h rfl)
  |_=>exact False.elim h
 |_=>cases x<;>exact False.elim h
def ixV (K:PySem.W.Frag):R2:=fun x y H Q=>match x,y with
 | .str z,.int i=>(L z).length<=sizeLine/\∃c,atI (L z) i=some c/\Q (.str (T [c])) H
 | .ref p,.int i=>∃xs v,(SqL K H p xs\/SqT K H p xs)/\atI xs i=some v/\Q v H
 |_,_=>False
theorem ZA2:IxR X (ixV X.K):=by
 intro value slice Za s σ H x y v u Q I rx ry h hs
 cases x<;>cases y<;>first
  |exact False.elim h
  |(obtain ⟨hz,c,e,q⟩:=h
    exact Ztv value slice Za s σ H _ _ v u Q I rx ry ⟨_,_,c,rfl,rfl,(by rw [<-Z8];exact hz),e,q⟩ hs)
  |(obtain ⟨xs,w,e|e,ei,q⟩:=h
    ·exact Zqt value slice Za s σ H _ _ v u Q I rx ry ⟨_,xs,_,w,rfl,rfl,e,ei,q⟩ hs
    ·exact ZsZ value slice Za s σ H _ _ v u Q I rx ry ⟨_,xs,_,w,rfl,rfl,e,ei,q⟩ hs)
def cut {α:Type} (xs:List α) (lo hi:Option Int):List α:=(xs.drop (HT.sIx xs.length 0 lo)).take (HT.sIx xs.length xs.length hi-HT.sIx xs.length 0 lo)
theorem ZgJ {α:Type} (xs:List α) (lo hi:Option Int):(cut xs lo hi).length<=xs.length:=by
 unfold cut
 rw [length_take,length_drop]
 omega
theorem Zms (a b:Nat):sliceRange (a:Int) (b:Int) 1=(List.range (b-a)).map fun k=>a+k:=by
 unfold sliceRange
 have h1:(1:Int)>0:=by decide
 simp only [h1,if_true]
 have e2:(if (a:Int)<(b:Int) then ((b:Int)-(a:Int)+1-1)/1 else 0).toNat=b-a:=by
  split<;>omega
 rw [e2]
 apply map_congr_left
 intro k _
 omega
theorem ZuB (lo hi:Option Int) (n:Nat):Builtin.Str.strSliceIndices lo hi 1 n=(List.range (HT.sIx n n hi-HT.sIx n 0 lo)).map fun k=>HT.sIx n 0 lo+k:=by
 rw [<-Zms]
 have h1:(1:Int)>0:=by decide
 have cl:∀(i:Int) (d:Nat),max 0 (min (if i<0 then i+(n:Int) else i) (n:Int))=((HT.sIx n d (some i):Nat):Int):=by
  intro i d
  show max 0 (min (if i<0 then i+(n:Int) else i) (n:Int))=(((if i<0 then (i+(n:Int)).toNat else min i.toNat n):Nat):Int)
  by_cases hi:i<0
  ·rw [if_pos hi,if_pos hi];omega
  ·rw [if_neg hi,if_neg hi];omega
 unfold Builtin.Str.strSliceIndices
 simp only [h1,if_true]
 cases lo with
 |none=>
  cases hi with
  |none=>rfl
  |some j=>
   simp only [cl j n]
   rfl
 |some i=>
  cases hi with
  |none=>
   simp only [cl i 0]
   rfl
  |some j=>simp only [cl i 0,cl j n]
theorem ZoX (l:List Nat) (a:Nat):∀k:Nat,((List.range k).map fun m=>a+m).filterMap (fun i=>l[i]?)=(l.drop a).take k
 |0=>by simp
 |k+1=>by
  rw [List.range_succ,map_append,List.filterMap_append,ZoX l a k,List.take_succ,List.getElem?_drop]
  cases e:l[a+k]?<;>simp [e]
theorem ZpG (z:Str) (lo hi:Option Int):Txt.slice z lo hi=T (cut (L z) lo hi):=by
 unfold Txt.slice
 rw [ZuB]
 have e0:(fun i:Nat=>z.cps[i]?)=fun i:Nat=>(L z)[i]?:=by
  funext i
  simp [L]
 have hl:(L z).length=z.length:=Z8 z
 have h1:=HT.ZmK z.length z.length (Nat.le_refl _) hi
 have e:T (cut (L z) lo hi)=⟨(((List.range (HT.sIx z.length z.length hi-HT.sIx z.length 0 lo)).map fun k=>HT.sIx z.length 0 lo+k).filterMap fun i=>z.cps[i]?).toArray⟩:=by
  rw [e0,ZoX]
  unfold cut T
  rw [hl]
 rw [<-e]
 split
 ·rename_i h
  rw [length_map,length_range] at h
  have h2:HT.sIx z.length z.length hi-HT.sIx z.length 0 lo=z.length:=by simpa using h
  have h3:HT.sIx z.length 0 lo=0:=by
   by_cases hz:z.length=0
   ·have:=HT.ZmK z.length 0 (Nat.zero_le _) lo
    omega
   ·omega
  unfold cut
  rw [hl,h2,h3,List.drop_zero,<-hl,List.take_length,T_L]
 ·rfl
def slV (K:PySem.W.Frag):V->Option Int->Option Int->Hp->VK->Prop:=fun x lo hi H Q=>match x with
 | .str z=>(L z).length<=sizeLine/\Q (.str (T (cut (L z) lo hi))) H
 | .ref p=>∃xs,SqL K H p xs/\∀q,H q=none->Q (.ref q) (upd H q (.lst (cut xs lo hi)))
 |_=>False
theorem ZjX {v:Value} {o:Option Int} (h:IsPart v o):∃q:Option (Int×Tok),v=partValue q/\q.map (·.1)=o:=by
 cases h with
 |none=>exact ⟨none,rfl,rfl⟩
 |int i t=>exact ⟨some (i,t),rfl,rfl⟩
theorem ZAE:SlR X (slV X.K):=by
 intro Za s σ H x v vl vu lo hi sl Q I rx hs pl pu h
 cases x with
 |str z=>
  obtain ⟨hz,q⟩:=h
  obtain ⟨t,rfl⟩:=rx
  obtain ⟨l,rfl,el⟩:=ZjX pl
  obtain ⟨u,rfl,eu⟩:=ZjX pu
  refine ⟨"str",_,F.slot_str_getitem.lookup,typeIs_str _ _ _,?_⟩
  refine wpAny_getItem_str_slice (l:=l) (u:=u) (st:=none) hs rfl ?_
  refine post_val_or_str ⟨?_,fun t' k=>?_⟩
  ·show (Txt.slice z (l.map (·.1)) (u.map (·.1))).length<=sizeLine
   refine Nat.le_trans (Txt.slice_le z _ _) ?_
   rw [<-Z8]
   exact hz
  ·refine ⟨.str (T (cut (L z) lo hi)),H,I.tok _,⟨t',?_⟩,q⟩
   show Value.str (Txt.slice z (l.map (·.1)) (u.map (·.1))) t'=_
   rw [ZpG,el,eu]
 |ref p=>
  obtain ⟨xs,hx,q⟩:=h
  exact Zp8 Za s σ H _ v vl vu lo hi sl Q I rx hs pl pu ⟨p,xs,rfl,hx,q⟩
 |_=>exact False.elim h
def Jz (K:PySem.W.Frag):List V->Hp->VK->Prop:=fun xs H Q=>match xs with
 |[.str z]=>(L z).length<=sizeLine/\Q (.int (L z).length) H
 |[.ref p]=>∃ys,(SqL K H p ys\/SqT K H p ys)/\Q (.int ys.length) H
 |_=>False
theorem Zz9:Jc X (.builtin "len") (Jz X.K):=by
 intro Za s σ H xs us Q I r h
 unfold Jz at h
 split at h
 ·exact ZgM Za s σ H _ us Q I r ⟨_,rfl,by rw [<-Z8];exact h.1,by rw [<-Z8];exact h.2⟩
 ·obtain ⟨ys,hy,q⟩:=h
  exact Zgd Za s σ H _ us Q I r ⟨_,ys,rfl,hy,q⟩
 ·exact h.elim
def Zr0 (l p:List Nat) (k:Nat):Bool:=decide (k+p.length<=l.length/\(l.drop k).take p.length=p)
theorem ZAc (x y:Str) (k:Nat):(decide (k+y.length<=x.length) && Builtin.Str.subAt x y k)=Zr0 (L x) (L y) k:=by
 unfold Zr0 Builtin.Str.subAt
 rw [Z8,Z8]
 rw [Bool.eq_iff_iff]
 simp only [Bool.and_eq_true,decide_eq_true_eq,beq_iff_eq]
 refine and_congr_right fun _=>?_
 have e:(x.cps.extract k (k+y.length)).toList=((L x).drop k).take y.length:=by
  simp [L,List.extract_eq_drop_take]
 constructor
 ·intro h
  rw [<-e,h]
  rfl
 ·intro h
  apply Array.ext'
  rw [e,h]
  rfl
def Zcn (sep:List Nat):List (List Nat)->List Nat
 |[]=>[]
 |[x]=>x
 |x::y::r=>x++sep++Zcn sep (y::r)
theorem qy:∀xs:List (List Nat),Zcn [] xs=xs.flatten
 |[]=>rfl
 |[x]=>by simp [Zcn]
 |x::y::r=>by
  rw [Zcn,qy (y::r)]
  simp
theorem Zi5 (sep:Str):∀ys:List Str,Str.join sep ys=T (Zcn (L sep) (ys.map L))
 |[]=>rfl
 |[x]=>by
  show x=T (L x)
  rw [T_L]
 |x::y::r=>by
  show x++sep++Str.join sep (y::r)=T (L x++L sep++Zcn (L sep) ((y::r).map L))
  rw [Zi5 sep (y::r),<-ZhE,<-ZhE,T_L,T_L]
theorem ZjH:∀{zs:List Str} {us:List Value},ZD (zs.map V.str) us->StrsAre us zs:=by
 intro zs
 induction zs with
 |nil=>intro us r;cases r;exact .nil
 |cons z r ih=>
  intro us h
  rw [map_cons] at h
  cases h with
  |cons r1 r2=>
   obtain ⟨t,rfl⟩:=r1
   exact .cons z t (ih r2)
def ZcV (K:PySem.W.Frag):V->List V->Hp->VK->Prop:=fun x xs H Q=>match x,xs with
 | .str a,[.ref p]=>∃zs:List (List Nat),SqL K H p (zs.map fun l=>V.str (T l))/\(zs.map List.length).sum+zs.length * (L a).length<=sizeLine/\Q (.str (T (Zcn (L a) zs))) H
 |_,_=>False
theorem Zuu:MtR X "str.join" (ZcV X.K):=by
 intro Za s σ H x xs v us Q I rx rs h
 unfold ZcV at h
 split at h
 ·rename_i a p
  obtain ⟨zs,hp,hz,q⟩:=h
  obtain ⟨t,rfl⟩:=rx
  obtain ⟨u,rfl,ru⟩:=JA rs
  cases ru
  obtain ⟨its,r',pl,_⟩:=I.list hp
  have e:(zs.map fun l=>V.str (T l))=(zs.map T).map V.str:=by simp
  rw [e] at r'
  have hl:sizeLine=16777216:=sizeLine_eq
  refine join_list (ys:=zs.map T) pl.isList (by simpa using ZjH r') ?_ fun t' k=>?_
  ·rw [map_map,length_map,<-Z8 a]
   have:(Str.length∘T)=List.length:=by
    funext l
    exact Zjk l
   rw [<-hl]
   show (List.map (Str.length∘T) zs).sum+_<=_
   rw [this]
   exact hz
  ·refine ⟨.str (T (Zcn (L a) zs)),H,I.tok _,⟨t',?_⟩,q⟩
   show Value.str (Txt.join a (zs.map T)) t'=_
   have e2:Txt.join a (zs.map T)=Str.join a (zs.map T):=StrLaws.glued_eq_join _ _
   rw [e2,Zi5,map_map]
   congr 3
   simp [L_T,Function.comp_def]
 ·exact h.elim
end
theorem zD.forget {P:Program} {w:World} {H H':Hp} {h h':Heap} {a:Addr} {o:HO} (x:zD P w H h a o) (y:zD P w H' h' a o):zD P w H h' a o:=by
 induction o with
 |frz ob u ih=>exact ⟨y.1,ih x.2 y.2⟩
 |ins C dx fs=>exact ⟨x.1,y.2⟩
 |dT kvs=>exact False.elim x
 |_=>exact y
theorem HOk.forget {P:Program} {w:World} {H H':Hp} {h h':Heap} (x:HOk P w H h) (y:HOk P w H' h') (sm:Zw H H'):HOk P w H h':=fun a o e=>(x a o e).forget (y a o (sm a o e))
section
variable {X:Cx} {Za:List (Addr×Obj)} {σ σ':St} {H H':Hp} {s s':Shared}
theorem Zw.upd {H H':Hp} {a:Addr} {o:HO} (e:Zw H H') (n:H' a=none):Zw H (upd H' a o):=fun b u q=>by
 have q':=e b u q
 rw [Zn (Zq q' n)]
 exact q'
theorem Zw.updN {H:Hp} {a:Addr} {o:HO} (n:H a=none):Zw H (L2.upd H a o):=Zw.upd (Zw.refl H) n
end
structure Fn (P:Program) (w:World) (K:PySem.W.Frag) (mg:Str->Option Value) (base:Heap) (k:Nat) (x:Str) (ps:List Str) (sp:Sp):Prop where
 ex:∃f fd,Z4 P w K mg base CX0 k f fd ps sp/\mg x=some (.ref f)/\keepIn K (.ref f)=true/\J8 K fd ps []
section
variable {P:Program} {w:World} {K:PySem.W.Frag} {mg:Str->Option Value} {base:Heap}
theorem Fun.pure {x qual:Str} {st:Stmt} {f:Addr} {fd:FuncData} {N ps:List Str} {k:Nat} {sp:Sp} (F:Fun K x qual st f fd) (S:ZA N ps (Zk st)) (len:∀vs H Q E,sp vs H Q E->vs.length=ps.length)
 (hbody:∀(cdv:Value) (A:Around) (outer:List Env) (s:Shared) (H:Hp) (vs:List V) (Q:VK) (E:XK),YD k (A.deeper (envOfC qual (Zk st) s.heap.objs.size f cdv))->sp vs H Q E->
  ∃t,PSs (Zav CX0 P w K mg base N qual (Zk st) f cdv A outer s H E).nox (Zy st) t/\t {nx:=fun _ H'=>Zw H H'/\Q .non H,rt:=fun v H'=>Zw H H'/\Q v H} (ZR N vs) H):Z4 P w K mg base CX0 (k+1) f fd ps sp:=by
 have F1:Z4 P w K mg base CX0 (k+1) f fd ps (fun vs H Q' E=>∃Q,sp vs H Q E/\Q'=fun v H'=>Zw H H'/\Q v H):=by
  refine F.ok S (fun vs H Q E ⟨Q0,h,_⟩=>len vs H Q0 E h) fun cdv A outer s H vs Q E hr ⟨Q0,h,e⟩=>?_
  subst e
  exact hbody cdv A outer s H vs Q0 E hr h
 refine ⟨len,fun A outer s H args us vs Q E hr e0 hb r hsp=>?_⟩
 refine codeAny_mono (F1.run A outer s H args us vs (fun v H'=>Zw H H'/\Q v H) E hr e0 hb r ⟨Q,hsp,rfl⟩) fun r s' h=>?_
 cases r with
 |error e=>exact h
 |ok fl=>
  cases fl with
  |ret u=>
   obtain ⟨v,H',os,bare,un,hok,rv,sm,q⟩:=h
   exact ⟨v,H,os,bare,⟨un.keep,un.slot,fun _ _ _ n _=>n,un.there,fun _ _ q=>q,fun _ _ _ q=>q,fun _ ps q=>⟨#[],by rw [q];simp⟩⟩,e0.hok.forget hok sm,rv,q⟩
  |next=>exact h
  |brk=>exact h
  |cont=>exact h
end
section
variable {X:Cx} {k:Nat} {x:Str} {ps:List Str} {sp:Sp} {p pos:Pos} {e:Expr} {es:List Expr} {t:TA}
def tFn (sp:Sp) (t:TA):TE:=fun σ H Q=>t σ H fun vs H1=>sp vs H1 Q E0
theorem zk (F:Fn X.prog X.w X.K X.mg X.base k x ps sp) (hr:YD k X.A) (ha:PA X (e::es) t) (hg:Gl X x:=by rfl) (hdb:(x==("__debug__":Str))=false:=by decide)
 (he:starEach (e::es) X.env=(false,eval e X.env)::starEach es X.env:=by rfl) (hpl:(backTo pos (starEach es X.env)).any (·.1)=false:=by rfl):PE X (.Call (.Name x p) (e::es) [] pos) (tFn sp t):=by
 obtain ⟨f,fd,F,hm,hk,hb⟩:=F.ex
 intro Za s σ H Q I h
 refine ZpE F hr hg hm hk hb .nil ZmC ha hdb he hpl Za s σ H Q I ?_
 show t σ H fun vs H1=>sp (vs++[]) H1 Q E0
 simp only [append_nil]
 exact h
end
def Ja:List (Str×NameKind)->List (Str×Addr)->List (Str×Addr)->Option (List (Str×Addr))
 |[],_,acc=>some acc
 |(n,k)::r,cells,acc=>if k==.free then (match cells.lookup n with
    |some c=>Ja r cells ((n,c)::acc)
    |none=>none) else Ja r cells acc
theorem Zae {scope:Scope} {env:Env} {cl:List (Str×Addr)} (h:Ja scope.names env.cells []=some cl):closureFor scope env=pure cl:=by
 have all:∀(names:List (Str×NameKind)) (acc:List (Str×Addr)),Ja names env.cells acc=some cl->
  (do
   let mut cs:=acc
   for (name,kind) in names do
    if kind==.free then cs:=(name,<-cellOf env name)::cs
   return cs:Sem (List (Str×Addr)))=pure cl:=by
  intro names
  induction names with
  |nil=>
   intro acc h
   cases Option.some.inj (show some acc=some cl from h)
   rfl
  |cons x r ih=>
   intro acc h
   obtain ⟨n,k⟩:=x
   unfold Ja at h
   dsimp only at ih ⊢
   rw [List.forIn_cons]
   dsimp only
   cases hk:(k==NameKind.free) with
   |false=>
    rw [hk] at h
    simp only [hk,Bool.false_eq_true,if_false] at h ⊢
    exact ih acc h
   |true=>
    rw [hk] at h
    simp only [hk,if_true] at h ⊢
    cases hc:env.cells.lookup n with
    |none=>rw [hc] at h;cases h
    |some c=>
     rw [hc] at h
     unfold cellOf
     simp only [hc]
     exact ih ((n,c)::acc) h
 exact all scope.names [] h
theorem qG {cells:List (Str×Addr)} {cl:List (Str×Addr)}:∀(names:List (Str×NameKind)) (acc:List (Str×Addr)),Ja names cells acc=some cl->
 (∀x c,acc.lookup x=some c->cells.lookup x=some c)->(∀x c,cl.lookup x=some c->cells.lookup x=some c)/\∀x,((∃c,acc.lookup x=some c)\/names.lookup x=some .free)->∃c,cl.lookup x=some c
 |[],acc,h,ha=>by
  cases Option.some.inj (show some acc=some cl from h)
  exact ⟨ha,fun x hx=>hx.elim id fun z=>by simp at z⟩
 |(n,k)::r,acc,h,ha=>by
  unfold Ja at h
  cases hk:(k==NameKind.free) with
  |false=>
   rw [hk] at h
   simp only [Bool.false_eq_true,if_false] at h
   obtain ⟨h1,h2⟩:=qG r acc h ha
   refine ⟨h1,fun x hx=>h2 x (hx.imp id fun z=>?_)⟩
   rw [List.lookup_cons] at z
   cases hx:x==n with
   |true=>
    rw [hx] at z
    cases Option.some.inj z
    cases hk
   |false=>rw [hx] at z;exact z
  |true=>
   rw [hk] at h
   simp only [if_true] at h
   cases hc:cells.lookup n with
   |none=>rw [hc] at h;cases h
   |some c=>
    rw [hc] at h
    obtain ⟨h1,h2⟩:=qG r ((n,c)::acc) h (fun x d hx=>by
     rw [List.lookup_cons] at hx
     cases e:x==n with
     |true=>
      rw [e] at hx
      cases Option.some.inj hx
      rw [eq_of_beq e]
      exact hc
     |false=>rw [e] at hx;exact ha x d hx)
    refine ⟨h1,fun x hx=>?_⟩
    cases e:x==n with
    |true=>exact h2 x (.inl ⟨c,by rw [List.lookup_cons,e]⟩)
    |false=>
     refine h2 x ?_
     rcases hx with ⟨d,hd⟩|hx
     ·exact .inl ⟨d,by rw [List.lookup_cons,e];exact hd⟩
     ·rw [List.lookup_cons,e] at hx
      exact .inr hx
theorem ZeR {scope:Scope} {env:Env} {x:Str} {k:NameKind} (h:scope.names.lookup x=some k):(relabel scope env).names.lookup x=some (if (k==.free && env.scope.kind==.function && env.kindOf x==some .cell)=true then .cell else k):=by
 unfold relabel
 dsimp only
 generalize scope.names=names at h
 induction names with
 |nil=>simp at h
 |cons y r ih=>
  obtain ⟨n,j⟩:=y
  rw [map_cons]
  rw [List.lookup_cons] at h
  cases e:x==n with
  |true=>
   rw [e] at h
   cases Option.some.inj h
   have en:=eq_of_beq e
   subst en
   dsimp only
   split<;>rw [List.lookup_cons,beq_self_eq_true]
  |false=>
   rw [e] at h
   have:=ih h
   dsimp only
   split<;>(rw [List.lookup_cons,e];exact this)
theorem Zg0 {scope:Scope} {env:Env} {x:Str} (h:scope.names.lookup x=none):(relabel scope env).names.lookup x=none:=by
 unfold relabel
 dsimp only
 generalize scope.names=names at h
 induction names with
 |nil=>rfl
 |cons y r ih=>
  obtain ⟨n,j⟩:=y
  rw [map_cons]
  rw [List.lookup_cons] at h
  cases e:x==n with
  |true=>rw [e] at h;cases h
  |false=>
   rw [e] at h
   have:=ih h
   dsimp only
   split<;>(rw [List.lookup_cons,e];exact this)
def PFs (X:Cx) (ifs:List Expr) (t:TT):Prop:=
 ∀(Za:List (Addr×Obj)) (s:Shared) (σ:St) (H:Hp) (Q:Bool->Hp->Prop),Inv X Za σ H s->t σ H Q->
  wpAny (model X.prog X.w) X.A (forIn ifs true fun c r=>if r=true then do let ok <-isTrue c X.env (eval c X.env);pure (ForInStep.yield ok) else pure (ForInStep.yield r)) (TP X Za σ Q) X.xe s
theorem ZgP {X:Cx}:PFs X [] (fun _ H Q=>Q true H):=fun _ _ _ H _ I h=>wpAny_tests_nil ⟨H,I,h⟩
theorem Zek {X:Cx} {c:Expr} {t:TT} (h:PT X c t):PFs X [c] t:=fun Za s σ H Q I q=>wpAny_tests_one (h Za s σ H Q I q)
def Zam (X:Cx) (scope:Scope):List (Str×Nat)->Prop
 |[]=>True
 |(x,j)::r=>(X.N[j]?=some x/\X.env.scope.names.lookup x=some .cell/\scope.names.lookup x=some .free)/\Zam X scope r
theorem Zam.get {X:Cx} {scope:Scope}:∀{cp:List (Str×Nat)} {i:Nat} {x:Str} {j:Nat},Zam X scope cp->cp[i]?=some (x,j)->X.N[j]?=some x/\X.env.scope.names.lookup x=some .cell/\scope.names.lookup x=some .free
 |[],_,_,_,_,e=>by simp at e
 |(y,k)::r,0,x,j,h,e=>by
  simp at e
  obtain ⟨rfl,rfl⟩:=e
  exact h.1
 |_::r,i+1,x,j,h,e=>Zam.get (cp:=r) (i:=i) h.2 (by simpa using e)
def J6 (n:Nat) (cp:List (Str×Nat)) (σ:St):St:=List.replicate n none++cp.map fun p=>gS σ p.2
def cxC (X:Cx) (scope:Scope) (cl:List (Str×Addr)) (N:List Str) (fp:List Addr) (C:Addr) (s:Shared) (H:Hp):Cx:=
 {X with N:=N,s₀:=s,H₀:=H,env:=compEnvC scope cl C X.env,outer:=X.stack,stack:=X.stack,ex:=fp,fn:=fun _=>false,pn:=[],xe:=fun _ _=>False}
def ZjG (n:Nat) (g:TG):Prop:=∀x σ H Q,g x σ H Q->g x σ H fun σ' H'=>Q σ' H'/\∀j:Nat,n<=j->σ'[j]?=σ[j]?
theorem ZgZ {n i:Nat} (h:i<n):ZjG n (Zz i):=fun x σ H Q q=>⟨q,fun j hj=>List.getElem?_set_ne (by omega)⟩
def Zrx (n:Nat) (cp:List (Str×Nat)) (wi:TI) (g:TG) (tc:TT) (te:TE):TE:=fun σ H Q=>wi σ H fun J H1=>∃W:Nat->Nat->Hp->List V->Prop,(∃m,W 0 m H1 [])/\∀i m H2 acc,W i m H2 acc->
 acc.length<sizeLine/\((J.stop i H2/\∀l,H2 l=none->Q (.ref l) (upd H2 l (.lst acc)))\/
  (J.go i H2/\∀x H3,J.yld i H2 x H3->g x (J6 n cp σ) H3 fun σ' H4=>tc σ' H4 fun b H5=>if b=true then te σ' H5 fun y H6=>∃m',m'<m/\W (i+1) m' H6 (acc++[y]) else ∃m',m'<m/\W (i+1) m' H5 acc))
abbrev Zau (its:List Value) (n:Nat):Obj:= {cls:=.type "list",data:=.seq its.toArray n}
section
variable {X:Cx} {Za:List (Addr×Obj)} {σ:St} {H2:Hp} {s2:Shared} {scope:Scope} {cl:List (Str×Addr)} {own:List Str} {cp:List (Str×Nat)} {fp:List Addr} {C D:Addr} {h1:Heap}
theorem ZpC (I:Inv X Za σ H2 s2) (hcl:Ja scope.names X.env.cells []=some cl) (hk:scope.kind=.function) (hnc:∀y∈scope.names,y.2≠ .cell)
 (f2:∀b∈fp,Zcu X Za H2 b) (hC:s2.heap.objs.size<=C) (hlt:∀b∈fp,b<s2.heap.objs.size) (N:List Str):(cxC X scope cl N fp C s2 H2).Ok:=by
 have c1:=(qG scope.names [] hcl (fun x c h=>by simp at h)).1
 have c2:=(qG scope.names [] hcl (fun x c h=>by simp at h)).2
 refine ⟨I.ok.mod,hk,I.ok.glob,I.ok.blt,hC,fun x y c h1 h2=>I.ok.inj x y c (c1 x c h1) (c1 y c h2),fun x hx=>?_,fun x c h _=>absurd h (by simp [cxC]),I.ok.hd,I.ok.frames,.inl rfl,fun b hb=>⟨?_,fun x c h=>?_⟩,I.bs,Nat.le_trans I.ok.bsz I.sz,fun b o e hb=>?_,fun b hb hf=>?_,I.stack,I.stkFree⟩
 ·have hx:(relabel scope X.env).names.lookup x=some .cell\/(relabel scope X.env).names.lookup x=some .free:=hx
  cases e:scope.names.lookup x with
  |none=>rw [Zg0 e] at hx;rcases hx with z|z<;>cases z
  |some k=>
   rw [ZeR e] at hx
   refine c2 x (.inr ?_)
   by_cases hf:(k==.free && X.env.scope.kind==.function && X.env.kindOf x==some .cell)=true
   ·have:k=.free:=by
     simp only [Bool.and_eq_true] at hf
     exact eq_of_beq hf.1.1
    rw [e,this]
   ·rw [if_neg hf] at hx
    rcases hx with z|z
    ·cases Option.some.inj z
     exact absurd rfl (hnc _ (PySem.mem_of_lookup e))
    ·cases Option.some.inj z
     exact e
 ·exact Nat.ne_of_lt (Nat.lt_of_lt_of_le (hlt b hb) hC)
 ·exact (f2 b hb).2.2.2.2.1 x c (c1 x c h)
 ·rcases (f2 b hb).2.2.2.1 with z|z
  ·exact I.ok.noex b o e z
  ·exact absurd (Nat.lt_of_lt_of_le (Heap.lt_size e) (Nat.le_trans I.ok.bsz z)) (Nat.lt_irrefl _)
 ·have hf:b∈frs X.stack:=hf
  rcases mem_cons.mp (I.stkSub b hf) with z|z
  ·exact (f2 b hb).2.1 z
  ·exact (f2 b hb).2.2.1 z
theorem ZeA {tk:Nat} (I:Inv X Za σ H2 s2) (hcl:Ja scope.names X.env.cells []=some cl) (hk:scope.kind=.function) (hnc:∀y∈scope.names,y.2≠ .cell) (hcp:Zam X scope cp)
 (f2:∀b∈fp,Zcu X Za H2 b) (hC:s2.heap.objs.size<C) (hlt:∀b∈fp,b<s2.heap.objs.size) (hns:h1.Ns C (fun _=>none)) (old:∀b o,s2.heap.get? b=some o->h1.get? b=some o)
 (hD:h1.get? s2.heap.objs.size=some (Zau [] 0)):
 Inv (cxC X scope cl (own++cp.map (·.1)) fp C s2 H2) [(s2.heap.objs.size,Zau [] 0)] (J6 own.length cp σ) H2 {s2 with heap:=h1,toks:=tk}:=by
 have ok:=ZpC I hcl hk hnc f2 (Nat.le_of_lt hC) hlt (own++cp.map (·.1))
 have c1:=(qG scope.names [] hcl (fun x c h=>by simp at h)).1
 have c2:=(qG scope.names [] hcl (fun x c h=>by simp at h)).2
 obtain ⟨m,hm,hl⟩:=id I.loc
 refine ⟨ok,rfl,I.bare,Un.kept old,⟨_,hns,fun i x v e1 e2 e3=>?_⟩,fun x c e=>?_,I.hok.fresh (Nat.le_of_lt hC),fun x c e=>I.freeC x c (c1 x c e),fun p hp=>?_,I.hok.kept old,?_⟩
 ·have e1:(own++cp.map (·.1))[i]?=some x:=e1
  unfold J6 at e2
  by_cases hi:i<own.length
  ·rw [List.getElem?_append_left (by simpa using hi),List.getElem?_replicate] at e2
   split at e2<;>cases e2
  ·rw [List.getElem?_append_right (by simpa using hi),length_replicate,List.getElem?_map] at e2
   rw [List.getElem?_append_right (by omega),List.getElem?_map] at e1
   cases q:cp[i-own.length]? with
   |none=>rw [q] at e1;cases e1
   |some p=>
    rw [q] at e1 e2
    obtain ⟨y,j⟩:=p
    cases Option.some.inj e1
    obtain ⟨g1,g2,g3⟩:=hcp.get q
    have e4:gS σ j=some v:=Option.some.inj e2
    obtain ⟨u,r,lk⟩:=hl j y v g1 (Zfi e4) (.inr (.inl g2))
    refine ⟨u,r,.inr ⟨?_,?_⟩⟩
    ·left
     show (relabel scope X.env).names.lookup y=some .cell
     rw [ZeR g3]
     rw [if_pos]
     have:X.env.kindOf y=some .cell:=g2
     rw [this,I.ok.kind]
     rfl
    ·rcases lk with ⟨z,_⟩|⟨_,c,z,zc⟩
     ·have z':X.env.scope.names.lookup y=some .local:=z
      rw [g2] at z'
      cases z'
     ·obtain ⟨d,hd⟩:=c2 y (.inr g3)
      have hd':=c1 y d hd
      rw [z] at hd'
      cases Option.some.inj hd'
      obtain ⟨o,ho,hdt⟩:=zc
      exact ⟨c,hd,o,old _ _ ho,hdt⟩
 ·obtain ⟨v,o,ho,hd⟩:=I.cell x c (c1 x c e)
  exact ⟨v,o,old _ _ ho,hd⟩
 ·have hp:p∈[(s2.heap.objs.size,Zau [] 0)]:=hp
  cases mem_singleton.mp hp
  refine ⟨hD,I.hok.fresh (Nat.le_refl _),Nat.ne_of_lt hC,fun hf=>?_,fun v z=>by cases z⟩
  have hf:s2.heap.objs.size∈frs X.stack:=hf
  rcases mem_cons.mp (I.stkSub _ hf) with z|z
  ·exact Nat.ne_of_gt I.lt z
  ·exact I.nofs (Nat.le_refl _) z
 ·show (J6 own.length cp σ).length=(own++cp.map (·.1)).length
  unfold J6
  simp
theorem Zh2 {X':Cx} {σ':St} {H':Hp} {s':Shared} {h'':Heap} {acc:List V} {its:List Value} {n:Nat} (I:Inv X Za σ H2 s2) (f2:∀b∈fp,Zcu X Za H2 b)
 (hX:X'=cxC X scope cl (own++cp.map (·.1)) fp C s2 H2) (hC:s2.heap.objs.size<C) (J:Inv X' [(s2.heap.objs.size,Zau its n)] σ' H' s') (rv:ZD acc its) (hz:acc.length<=sizeLine)
 (hsb:Heap.SameBut C s'.heap h''):H' s2.heap.objs.size=none/\Inv X Za σ (upd H' s2.heap.objs.size (.lst acc)) {s' with heap:=h''}:=by
 subst hX
 obtain ⟨p1,p2,p3,p4,p5⟩:=J.pin (s2.heap.objs.size,Zau its n) (mem_append_right _ (mem_singleton.mpr rfl))
 have p1:s'.heap.get? s2.heap.objs.size=some (Zau its n):=p1
 have p2:H' s2.heap.objs.size=none:=p2
 have hfC:H' C=none:=J.free
 have up:∀b o,b≠C->s'.heap.get? b=some o->h''.get? b=some o:=fun b o hb e=>(hsb.2 b hb).trans e
 have ltC:∀b o,s2.heap.get? b=some o->b≠C:=fun b o e=>Nat.ne_of_lt (Nat.lt_trans (Heap.lt_size e) hC)
 have ltD:∀b o,s2.heap.get? b=some o->b≠s2.heap.objs.size:=fun b o e=>Nat.ne_of_lt (Heap.lt_size e)
 have B:Un (frs X.stack) fp H2 H' s2.heap s'.heap:=J.base
 refine ⟨p2,I.call' (ch:=fp) J.os ⟨fun b o e n hb hx=>up b o (ltC b o e) (B.keep b o e n hb hx),fun b o e n hb hx=>?_,fun b o e n hx=>?_,fun b o e hx=>?_,fun b xs e=>?_,fun b o u e=>?_,fun b ps e=>?_⟩ (fun a o e=>?_) J.bare
  fun b hb=>⟨(f2 b hb).2.2.2.1,(f2 b hb).2.1,(f2 b hb).2.2.2.2.1,(f2 b hb).2.2.2.2.2⟩⟩
 ·obtain ⟨sl,e1⟩:=B.slot b o e n hb hx
  exact ⟨sl,up b _ (ltC b o e) e1⟩
 ·rw [Zn (ltD b o e)]
  exact B.free b o e n hx
 ·obtain ⟨o',e1⟩:=B.there b o e hx
  exact ⟨o',up b o' (ltC b o e) e1⟩
 ·have q:=B.tups b xs e
  rw [Zn (Zq q p2)]
  exact q
 ·have q:=B.frzs b o u e
  rw [Zn (Zq q p2)]
  exact q
 ·obtain ⟨more,q⟩:=B.tbls b ps e
  exact ⟨more,by rw [Zn (Zq q p2)];exact q⟩
 ·by_cases ha:a=s2.heap.objs.size
  ·subst ha
   rw [Zj] at e
   cases e
   exact ⟨hz,its,n,rv,up _ _ (Nat.ne_of_lt hC) p1⟩
  ·rw [Zn ha] at e
   refine (J.hok a o e).stay (fun b u hb q=>up b u ?_ q) (fun b q=>?_) fun b xs q=>?_
   ·rintro rfl
    rcases hb with z|z
    ·subst z
     rw [hfC] at e
     cases e
    ·rw [hfC] at z
     cases z
   ·rw [Zn (Zq q p2)]
    exact q
   ·rw [Zn (Zq q p2)]
    exact q
end
theorem Zd7 {α:Type} {t:Sem α} {Q Q':α->Shared->Prop} {M:Model} {A:Around} {E:Value->Shared->Prop} {s:Shared} (h:wpAny M A t Q (fun _ _=>False) s) (hQ:∀a s,Q a s->Q' a s):wpAny M A t Q' E s:=wpAny_mono h hQ fun _ _ x=>x.elim
section
variable {X:Cx}
theorem Zgi {elt iter target:Expr} {ifs:List Expr} {scope:Scope} {pos:Pos} {cl:List (Str×Addr)} {own:List Str} {cp:List (Str×Nat)} {wi:TI} {g:TG} {tc:TT} {te:TE}
 (hc:X.calm=true) (hcl:Ja scope.names X.env.cells []=some cl) (hk:scope.kind=.function) (hnc:∀y∈scope.names,y.2≠ .cell)
 (hnm:∀x∈scope.names,x.2=.local->scope.names.lookup x.1=some .local) (hcp:Zam X scope cp) (hi:PI X target iter wi) (gk:ZjG own.length g)
 (hg:∀fp C s H,PG (cxC X scope cl (own++cp.map (·.1)) fp C s H) target g) (ht:∀fp C s H,PFs (cxC X scope cl (own++cp.map (·.1)) fp C s H) ifs tc) (he:∀fp C s H,PE (cxC X scope cl (own++cp.map (·.1)) fp C s H) elt te)
 (hs:∀x,foldedSetIterable iter X.env x=pure x:=by intro _;rfl):PE X (.ListComp elt [⟨target,iter,ifs,0⟩] scope pos) (Zrx own.length cp wi g tc te):=by
 intro Za s σ H Q I h
 rw [eval_ListComp]
 refine wpAny_comprehension_free (use:=none) rfl hs (Zae hcl) hk hnm (thn (hi Za s σ H _ I h) fun xv s1 h1=>thn h1 fun itv s2 h2=>?_)
 obtain ⟨it,fp,tn,J,H2,e,I2,Tn,st2,f2,W,⟨m0,w0⟩,turn⟩:=h2
 subst e
 have hlt:∀b∈fp,b<s2.heap.objs.size:=fun b hb=>by
  obtain ⟨o,e,_⟩:=Tn.obj _ _ st2 b hb
  exact Heap.lt_size e
 refine wpAny_newObj_type (wpAny_newFunctionEnv hnc (by intro y hy;simp at hy) (fun h1 hns hsb=>?_) hk)
 dsimp only at hns hsb ⊢
 generalize hP:s2.heap.push {cls:=.type "list",dict:=none,data:=.seq ([]:List Value).toArray}=h0 at hns hsb ⊢
 have hCs:h0.objs.size=s2.heap.objs.size+1:=by rw [<-hP,Heap.size_push]
 generalize hCg:h0.objs.size=C at hns hsb hCs ⊢
 have hC:s2.heap.objs.size<C:=by omega
 have neC:∀b:Addr,b<s2.heap.objs.size->b≠C:=fun b h=>Nat.ne_of_lt (Nat.lt_trans h hC)
 have old:∀b o,s2.heap.get? b=some o->h1.get? b=some o:=fun b o e=>
  (hsb.2 b (neC b (Heap.lt_size e))).trans (by rw [Heap.get?_push_of_some _ (by rw [<-hP];exact Heap.get?_push_of_some _ e)])
 have hD:h1.get? s2.heap.objs.size=some (Zau [] 0):=
  (hsb.2 _ (Nat.ne_of_lt hC)).trans (by rw [Heap.get?_push_of_some _ (by rw [<-hP];exact Heap.get?_push_size _ rfl)])
 have fpok:∀{its:List Value} {k:Nat} {H':Hp},(∀b∈fp,H' b=none)->∀b∈fp,Zcu (cxC X scope cl (own++cp.map (·.1)) fp C s2 H2) [(s2.heap.objs.size,Zau its k)] H' b:=fun {its k H'} fr b hb=>by
  refine ⟨fr b hb,neC b (hlt b hb),fun hf=>?_,.inl hb,fun x c e=>?_,fun p hp=>?_⟩
  ·have hf:b∈frs X.stack:=hf
   rcases mem_cons.mp (I2.stkSub b hf) with z|z
   ·exact (f2 b hb).2.1 z
   ·exact (f2 b hb).2.2.1 z
  ·exact (f2 b hb).2.2.2.2.1 x c ((qG scope.names [] hcl (fun x c h=>by simp at h)).1 x c e)
  ·have hp:p∈[(s2.heap.objs.size,Zau its k)]:=hp
   cases mem_singleton.mp hp
   exact Nat.ne_of_gt (hlt b hb)
 have loop:∀s4:Shared,s4= {s2 with heap:=h1,toks:=s2.toks+([]:List (Str×Value)).length}->
  codeAny (model X.prog X.w) X.A (.compLoop (.ListComp elt [⟨target,iter,ifs,0⟩] scope pos) 0 (.ref it) (.ref s2.heap.objs.size) (compEnvC scope cl C X.env))
   (compPost (model X.prog X.w) X.A X.xe none (EP X Za σ Q) (.ref s2.heap.objs.size) C) s4:=by
  intro s4 e4
  have I4:Inv (cxC X scope cl (own++cp.map (·.1)) fp C s2 H2) [(s2.heap.objs.size,Zau [] 0)] (J6 own.length cp σ) H2 s4:=by
   rw [e4]
   exact ZeA I2 hcl hk hnc hcp f2 hC hlt (by simpa using hns) old hD
  have st4:tn 0 s4.heap:=by
   rw [e4]
   exact Tn.keep _ _ _ st2 fun b _ o e=>old b o e
  refine codeAny_loop rfl (fun n s'=>∃i H' acc its k,Inv (cxC X scope cl (own++cp.map (·.1)) fp C s2 H2) [(s2.heap.objs.size,Zau its k)] (J6 own.length cp σ) H' s'/\ZD acc its/\tn i s'.heap/\(∀b∈fp,H' b=none)/\W i n H' acc)
   (fun n s' hI=>?_) m0 ⟨0,H2,[],[],0,I4,.nil,st4,fun b hb=>(f2 b hb).1,w0⟩
  obtain ⟨i,H',acc,its,k,I',rv,st,fr,w⟩:=hI
  show wpAny _ X.A ((compTurn (.ListComp elt [⟨target,iter,ifs,0⟩] scope pos) 0 (.ref it) (.ref s2.heap.objs.size) (compEnvC scope cl C X.env)).onRaise (fun x=>do noteFrame x (compEnvC scope cl C X.env);theTreesLotGoes x)) _ _ s'
  refine wpAny_noted ?_
  rw [compTurn_list]
  refine wpAny_bind (wpAny_standAt (wpAny_bind ?_))
  obtain ⟨hz,⟨stop,fin⟩|⟨go,step⟩⟩:=turn i n H' acc w
  ·refine Zd7 (Tn.done (cxC X scope cl (own++cp.map (·.1)) fp C s2 H2) rfl rfl rfl hc i _ s' _ H' (fun _ _=>False) I' (fpok fr) st stop) fun r s5 ⟨hr,I5⟩=>?_
   subst hr
   refine wpAny_pure ?_
   obtain ⟨mm,hmm,_⟩:=I5.loc
   refine ⟨mm,hmm,fun h'' hs''=>?_⟩
   obtain ⟨hn,I6⟩:=Zh2 I2 f2 rfl hC I5 rv (Nat.le_of_lt hz) hs''
   exact ⟨.ref s2.heap.objs.size,_,I6,rfl,fin _ hn⟩
  ·refine Zd7 (Tn.item (cxC X scope cl (own++cp.map (·.1)) fp C s2 H2) rfl rfl rfl hc i _ s' _ H' (fun _ _=>False) I' (fpok fr) st go) fun r s5 ⟨u,hr,h5⟩=>?_
   subst hr
   refine wpAny_bind (Zd7 h5 fun _ s6 ⟨x,H6,I6,r6,y6,st6,fr6⟩=>?_)
   have I6':=I6.pinned (fpok fr6) (Tn.obj _ _ st6)
   refine wpAny_bind (Zd7 (hg fp C s2 H2 _ s6 _ H6 x u _ I6' r6 (gk _ _ _ _ (step x H6 y6))) fun _ s7 ⟨σ7,H7,I7,q7,kp7⟩=>?_)
   refine wpAny_bind (Zd7 (ht fp C s2 H2 _ s7 σ7 H7 _ I7 q7) fun b s8 ⟨H8,I8,q8⟩=>?_)
   have weak:∀{H9:Hp} {s9:Shared} {ps:List (Addr×Obj)},Inv (cxC X scope cl (own++cp.map (·.1)) fp C s2 H2) ps σ7 H9 s9->Inv (cxC X scope cl (own++cp.map (·.1)) fp C s2 H2) ps (J6 own.length cp σ) H9 s9:=fun {H9 s9 ps} I9=>
    I9.weak (by rw [I9.len];exact I'.len) fun j v e=>by
     by_cases hj:own.length<=j
     ·rw [kp7 j hj]
      exact e
     ·unfold J6 at e
      rw [List.getElem?_append_left (by rw [length_replicate];omega),List.getElem?_replicate] at e
      split at e<;>cases e
   have turned:∀{H9:Hp} {s9:Shared},Inv (cxC X scope cl (own++cp.map (·.1)) fp C s2 H2) ([(s2.heap.objs.size,Zau its k)]++J3 fp s6.heap) σ7 H9 s9->(∀b∈fp,H9 b=none)/\∀b∈fp,∀o,s6.heap.get? b=some o->s9.heap.get? b=some o:=fun {H9 s9} I9=>by
    refine ⟨fun b hb=>?_,fun b hb o e=>?_⟩
    ·obtain ⟨o,e,_⟩:=Tn.obj _ _ st6 b hb
     exact (I9.pin (b,o) (mem_append_right _ (mem_append_right _ (JK hb e)))).2.1
    ·exact (I9.pin (b,o) (mem_append_right _ (mem_append_right _ (JK hb e)))).1
   cases b with
   |false=>
    obtain ⟨m',hm',w8⟩:=q8
    refine wpAny_pure ⟨rfl,m',hm',i+1,H8,acc,its,k,weak I8.unpinned,rv,Tn.keep _ _ _ st6 (turned I8).2,(turned I8).1,w8⟩
   |true=>
    refine wpAny_bind (wpAny_bind (Zd7 (he fp C s2 H2 _ s8 σ7 H8 _ I8 q8) fun uy s9 ⟨y,H9,I9,r9,m',hm',w9⟩=>?_))
    have pD:=I9.pin (s2.heap.objs.size,Zau its k) (mem_append_right _ (mem_append_left _ (mem_singleton.mpr rfl)))
    have lenI:=rv.length
    refine wpAny_bind (wpAny_list_append_plain (items:=its.toArray) ⟨k,pD.1⟩ (fun h10 pl sb=>?_) (by rw [size_toArray];omega))
    obtain ⟨k',hk'⟩:=pl
    have I10:Inv (cxC X scope cl (own++cp.map (·.1)) fp C s2 H2) (J3 fp s6.heap) σ7 H9 {s9 with heap:=h10}:=by
     have I9':Inv (cxC X scope cl (own++cp.map (·.1)) fp C s2 H2) (J3 fp s6.heap) σ7 H9 s9:=I9.pins_of fun p hp=>I9.pin p (mem_append_right _ (mem_append_right _ hp))
     refine I9'.turned (t':=s9.toks) (it:=s2.heap.objs.size) (fun b o hb e=>(sb.2 b hb).trans e) pD.2.1 pD.2.2.1 (.inr (Nat.le_refl _)) (fun x c e z=>?_) fun p hp z=>?_
     ·obtain ⟨v,o,ho,hd⟩:=I9.cell x c e
      rw [z,pD.1] at ho
      cases ho
      cases hd
     ·have hp:p∈J3 fp s6.heap:=hp
      exact Nat.ne_of_lt (hlt p.1 (ZdC hp).1) z
    have kk:∀b∈fp,∀o,s6.heap.get? b=some o->h10.get? b=some o:=fun b hb o e=>(sb.2 b (Nat.ne_of_lt (hlt b hb))).trans ((turned I9).2 b hb o e)
    have I11:Inv (cxC X scope cl (own++cp.map (·.1)) fp C s2 H2) [(s2.heap.objs.size,Zau (its++[uy]) k')] σ7 H9 {s9 with heap:=h10}:=I10.pins_of fun p hp=>by
     cases mem_singleton.mp hp
     refine ⟨?_,pD.2.1,pD.2.2.1,pD.2.2.2.1,fun v z=>by cases z⟩
     rw [hk']
     simp
    exact wpAny_pure (wpAny_pure ⟨rfl,m',hm',i+1,H9,acc++[y],its++[uy],k',weak I11,rv.append (.cons r9 .nil),Tn.keep _ _ _ st6 kk,(turned I9).1,w9⟩)
 exact codeAny_compStart_list (loop _ rfl) (Tn.self _ 0 _ _ _ (Tn.keep _ _ _ st2 fun b _ o e=>old b o e) (loop _ rfl))
end
section
variable {X:Cx} {pos:Pos}
def trV (K:PySem.W.Frag) (t:TE):TT:=fun σ H Q=>t σ H fun x H'=>match x with
 | .bl b=>Q b H'
 | .int i=>Q (i !=0) H'
 | .non=>Q false H'
 | .str z=>(L z).length<=sizeLine/\Q (((L z).length:Int) !=0) H'
 | .ref p=>∃k,Zzj K (.ref p) H' k/\Q k H'
 |_=>False
theorem Zzq {a:Expr} {ta:TE} (ha:PE X a ta) (he:∀whole,isTrue a X.env whole=(do let v <-whole;standAt a.pos;holding [v] (truthy v)):=by intro _;rfl):PT X a (trV X.K ta):=by
 intro Za s σ H Q I h
 refine isTrue_plain (thn (ha Za s σ H _ I h) fun v s1 ⟨x,H1,I1,r1,q1⟩=>ZsC Za s1 σ H1 x v Q I1 r1 ?_) (he _)
 cases x with
 |bl b=>exact ⟨b,rfl,q1⟩
 |int i=>exact ⟨_,rfl,q1⟩
 |non=>exact ⟨false,rfl,q1⟩
 |str z=>exact ⟨_,⟨by rw [<-Z8];exact q1.1,rfl⟩,by rw [<-Z8];exact q1.2⟩
 |ref p=>exact q1
 |_=>exact False.elim q1
def tB2 (r:R2) (ta tb:TE):TT:=fun σ H Q=>ta σ H fun x H1=>tb σ H1 fun y H2=>r x y H2 fun z H3=>match z with
 | .bl b=>Q b H3
 |_=>False
theorem Z7 {op:CmpOp} {r:R2} {a b:Expr} {ta tb:TE} (ho:OpR X (compareOp op) r) (ha:PE X a ta) (hb:PE X b tb) (hm:behindInMarks op b=false:=by first|exact Zmb _|with_unfolding_all rfl):PT X (.Compare a [op] [b] pos) (tB2 r ta tb):=by
 intro Za s σ H Q I h
 refine wpAny_isTrue_Compare1 (thn (ha Za s σ H _ I h) fun v s1 ⟨x,H1,I1,r1,q1⟩=>thn (hb Za s1 σ H1 _ I1 q1) fun u s2 ⟨y,H2,I2,r2,q2⟩=>
  thn (ho Za s2 σ H2 x y v u _ I2 r1 r2 q2) fun c s3 ⟨z,H3,I3,r3,q3⟩=>?_) hm
 cases z with
 |bl k=>cases r3;exact wpAny_truthy_bool ⟨H3,I3,q3⟩
 |_=>exact False.elim q3
theorem ZdT {op:CmpOp} {r:R2} {a b:Expr} {ta tb:TE} (ho:OpR X (compareOp op) r) (ha:PE X a ta) (hb:PE X b tb) (hm:behindInMarks op b=false:=by first|exact Zmb _|with_unfolding_all rfl):PE X (.Compare a [op] [b] pos) (tOp r ta tb):=ZpN ho ha hb hm
def Zwd (ta tb:TE):TE:=fun σ H Q=>ta σ H fun x H1=>match x with
 | .bl c=>if c=true then tb σ H1 Q else Q (.bl false) H1
 |_=>False
theorem ZnL {a:Expr} {ta:TE} (h:PE X a ta) (Za:List (Addr×Obj)) (s:Shared) (σ:St) (H:Hp) (Q Q':VK) (I:Inv X Za σ H s) (q:ta σ H Q) (hq:∀v H',Q v H'->Q' v H'):wpAny (model X.prog X.w) X.A (eval a X.env) (EP X Za σ Q') X.xe s:=
 thn (h Za s σ H Q I q) fun u s1 ⟨v,H1,I1,r,q⟩=>⟨v,H1,I1,r,hq v H1 q⟩
theorem PE.imp {e:Expr} {t:TE} (h:PE X e t) {t':TE} (hi:∀σ H Q,t' σ H Q->∃Q0,t σ H Q0/\∀v H',Q0 v H'->Q v H'):PE X e t':=fun Za s σ H Q I q=>by
 obtain ⟨Q0,h0,h1⟩:=hi σ H Q q
 exact ZnL h Za s σ H Q0 Q I h0 h1
theorem ZgK {a b:Expr} {qP:List Expr} {ta tb:TE} (ha:PE X a ta) (hb:PE X (.BoolOp .And (b::qP) pos) tb):PE X (.BoolOp .And (a::b::qP) pos) (Zwd ta tb):=by
 have ha':PE X a (fun σ H Q=>∃Q0:VK,ta σ H Q0/\∀v H',Q0 v H'->Q v H'):=ha.imp fun σ H Q h=>h
 intro Za s σ H Q I h
 refine ZuA (ta:=fun σ H Q=>∃Q0:VK,ta σ H Q0/\∀v H',Q0 v H'->Q v H') ha' hb Za s σ H Q I ?_
 refine ⟨_,h,fun v H' q=>?_⟩
 cases v with
 |bl c=>exact ⟨c,rfl,q⟩
 |_=>exact False.elim q
def Zkw:V->Hp->VK->Prop:=fun x H Q=>match x with
 | .int i=>Q (.int (-i)) H
 |_=>False
theorem Zow:UnR X (unaryOp .USub) Zkw:=by
 intro Za s σ H x v Q I rx h
 cases x with
 |int i=>exact Zut Za s σ H _ v Q I rx ⟨i,rfl,h⟩
 |_=>exact False.elim h
def pT (t:TE):TO:=fun σ H Q=>t σ H fun x H1=>match x with
 | .int i=>Q (some i) H1
 |_=>False
theorem ZcZ {e:Expr} {te:TE} (h:PE X e te):PO X (some e) (pT te):=by
 have h':PE X e (fun σ H Q=>∃Q0:VK,te σ H Q0/\∀v H',Q0 v H'->Q v H'):=h.imp fun σ H Q h=>h
 intro Za s σ H Q I hw
 refine ZpP h' Za s σ H Q I ?_
 refine ⟨_,hw,fun v H' q=>?_⟩
 cases v with
 |int i=>exact ⟨i,rfl,q⟩
 |_=>exact False.elim q
def Zqg (i:Nat) (te:TE) (ti:TIp):TS:=fun D σ H=>match gS σ i with
 |some x=>te σ H fun y H1=>ti x y H1 fun z H2=>D.nx (σ.set i (some z)) H2
 |none=>False
theorem Zj9 {i:Nat} {x:Str} {e:Expr} {te:TE} {op:Operator} {ti:TIp} {pos':Pos} (ho:OpR X (inplaceOp op) ti) (hN:X.N.Nodup) (hi:X.N[i]?=some x) (hx:Loc X.env.scope x) (he:PE X e te) (hf:X.fn x=true\/X.env.scope.names.lookup x=some .local:=by first|exact .inl rfl|exact .inr rfl|assumption):
 PS X (.AugAssign (.Name x pos') op e pos) (Zqg i te ti):=by
 intro Za s σ H D I h
 refine Zsr hN hi hx he ho hf Za s σ H D I ?_
 unfold Zqg at h
 cases e:gS σ i with
 |none=>rw [e] at h;exact h.elim
 |some v=>rw [e] at h;exact ⟨v,Zfi e,h⟩
def tWh (c:TT) (tb:TS):TS:=fun D σ H=>∃W:Nat->St->Hp->Prop,(∃m,W m σ H)/\∀m σ H,W m σ H->
 c σ H fun b H1=>if b=true then tb {nx:=fun σ' H'=>∃m',m'<m/\W m' σ' H',rt:=D.rt,bk:=D.nx,ct:=fun σ' H'=>∃m',m'<m/\W m' σ' H'} σ H1 else D.nx σ H1
theorem Zhl {c:Expr} {body:List Stmt} {tc:TT} {tb:TS} (hp:PassesOwn (model X.prog X.w) X.A X.env X.xe) (hc:PT X c tc) (hb:PSs X body tb):PS X (.While c body [] pos) (tWh tc tb):=by
 have hc':PT X c (fun σ H Q=>∃Q0:Bool->Hp->Prop,tc σ H Q0/\∀v H',Q0 v H'->Q v H'):=fun Za s σ H Q I ⟨Q0,h0,h1⟩=>thn (hc Za s σ H Q0 I h0) fun b s1 ⟨H1,I1,q⟩=>⟨H1,I1,h1 b H1 q⟩
 intro Za s σ H D I h
 obtain ⟨W,w0,turn⟩:=h
 refine Zoc hp hc' hb Za s σ H D I ⟨W,w0,fun m σ1 H1 w=>⟨_,turn m σ1 H1 w,fun b H2 q=>?_⟩⟩
 cases b with
 |true=>exact ⟨_,fun _ _ z=>z,q⟩
 |false=>exact q
def ZqD (lo:Int) (n:Nat) (i:Nat) (tb:TS):TS:=fun D σ H=>∃Pv:Nat->St->Hp->Prop,Pv 0 σ H/\(∀k σ H,k<n->Pv k σ H->tb {nx:=Pv (k+1),rt:=D.rt,bk:=D.nx,ct:=Pv (k+1)} (σ.set i (some (.int (lo+k)))) H)/\∀σ H,Pv n σ H->D.nx σ H
def ZoD (ta:TA) (i:Nat) (tb:TS):TS:=fun D σ H=>ta σ H fun vs H1=>match vs with
 |[.int j]=>(-(2 ^ 62)<=j/\j<2 ^ 62)/\ZqD 0 j.toNat i tb D σ H1
 |_=>False
def ZrV (ta:TA) (i:Nat) (tb:TS):TS:=fun D σ H=>ta σ H fun vs H1=>match vs with
 |[.int l,.int j]=>(-(2 ^ 62)<=l/\l<2 ^ 62/\ -(2 ^ 62)<=j/\j<2 ^ 62)/\ZqD l (j-l).toNat i tb D σ H1
 |_=>False
theorem PA.imp {es:List Expr} {t:TA} (h:PA X es t) {t':TA} (hi:∀σ H Q,t' σ H Q->∃Q0:List V->Hp->Prop,t σ H Q0/\∀v H',Q0 v H'->Q v H'):PA X es t':=fun p Za s σ H Q I q=>by
 obtain ⟨Q0,h0,h1⟩:=hi σ H Q q
 exact thn (h p Za s σ H Q0 I h0) fun us s1 ⟨vs,H1,I1,r,q⟩=>⟨vs,H1,I1,r,h1 vs H1 q⟩
theorem Zeb {a:Expr} {x:Str} {i:Nat} {p p' pos':Pos} {body:List Stmt} {ta:TA} {tb:TS} (hp:PassesOwn (model X.prog X.w) X.A X.env X.xe) (hc:X.calm=true) (hm:X.mg "range"=none) (ha:PA X [a] ta)
 (hg:PG X (.Name x pos') (Zz i)) (hb:PSs X body tb) (hgl:Gl X "range":=by rfl) (hs:starEach [a] X.env=[(false,eval a X.env)]:=by rfl) (hf:∀x,foldedSetIterable (.Call (.Name "range" p) [a] [] p') X.env x=pure x:=by intro _;rfl):
 PS X (.For (.Name x pos') (.Call (.Name "range" p) [a] [] p') body [] pos) (ZoD ta i tb):=by
 have ha':PA X [a] (fun σ H Q=>∃Q0:List V->Hp->Prop,ta σ H Q0/\∀v H',Q0 v H'->Q v H'):=ha.imp fun σ H Q h=>h
 intro Za s σ H D I h
 refine Zgn hp hc (Zk4 hgl hm ha' hs) hg hb hf Za s σ H D I ⟨_,h,fun vs H1 q=>?_⟩
 split at q
 ·obtain ⟨⟨h1,h2⟩,Pv,h0,hs',hd⟩:=q
  exact ⟨_,rfl,h1,h2,ZfQ Pv h0 (fun k σ H hk pv=>hs' k σ H hk pv) hd⟩
 ·exact q.elim
theorem ZqL {a b:Expr} {x:Str} {i:Nat} {p p' pos':Pos} {body:List Stmt} {ta:TA} {tb:TS} (hp:PassesOwn (model X.prog X.w) X.A X.env X.xe) (hc:X.calm=true) (hm:X.mg "range"=none) (ha:PA X [a,b] ta)
 (hg:PG X (.Name x pos') (Zz i)) (hb:PSs X body tb) (hgl:Gl X "range":=by rfl) (hs:starEach [a,b] X.env=[(false,eval a X.env),(false,eval b X.env)]:=by rfl) (hs2:starEach [b] X.env=[(false,eval b X.env)]:=by rfl) (hf:∀x,foldedSetIterable (.Call (.Name "range" p) [a,b] [] p') X.env x=pure x:=by intro _;rfl):
 PS X (.For (.Name x pos') (.Call (.Name "range" p) [a,b] [] p') body [] pos) (ZrV ta i tb):=by
 have ha':PA X [a,b] (fun σ H Q=>∃Q0:List V->Hp->Prop,ta σ H Q0/\∀v H',Q0 v H'->Q v H'):=ha.imp fun σ H Q h=>h
 intro Za s σ H D I h
 refine Zgn hp hc (Zlm hgl hm ha' hs hs2) hg hb hf Za s σ H D I ⟨_,h,fun vs H1 q=>?_⟩
 split at q
 ·obtain ⟨h1,Pv,h0,hs',hd⟩:=q
  exact ⟨_,_,rfl,h1,ZfQ Pv h0 (fun k σ H hk pv=>hs' k σ H hk pv) hd⟩
 ·exact q.elim
def Zzz (K:PySem.W.Frag) (a:Addr) (xs:List V) (g:TG) (tb:TS):TS:=fun D σ H=>∃Pv:Nat->St->Hp->Prop,Pv 0 σ H/\(∀i σ H,i<=xs.length->Pv i σ H->SqL K H a xs)/\
 (∀i x σ H,xs[i]?=some x->Pv i σ H->g x σ H fun σ2 H2=>tb {nx:=Pv (i+1),rt:=D.rt,bk:=D.nx,ct:=Pv (i+1)} σ2 H2)/\∀σ H,Pv xs.length σ H->D.nx σ H
def ZmP (K:PySem.W.Frag) (tl:TE) (g:TG) (tb:TS):TS:=fun D σ H=>tl σ H fun v H1=>match v with
 | .ref a=>∃xs,SqL K H1 a xs/\Zzz K a xs g tb D σ H1
 |_=>False
theorem Zvd {l tg:Expr} {body:List Stmt} {tl:TE} {g:TG} {tb:TS} (hp:PassesOwn (model X.prog X.w) X.A X.env X.xe) (hc:X.calm=true) (hl:PE X l tl) (hg:PG X tg g) (hb:PSs X body tb)
 (hf:∀x,foldedSetIterable l X.env x=pure x:=by intro _;rfl):PS X (.For tg l body [] pos) (ZmP X.K tl g tb):=by
 have hl':PE X l (fun σ H Q=>∃Q0:VK,tl σ H Q0/\∀v H',Q0 v H'->Q v H'):=hl.imp fun σ H Q h=>h
 intro Za s σ H D I h
 refine Zgn hp hc (ZcP hl') hg hb hf Za s σ H D I ⟨_,h,fun v H1 q=>?_⟩
 cases v with
 |ref a=>
  obtain ⟨xs,hx,Pv,h0,hs,h1,hd⟩:=q
  exact ⟨a,rfl,⟨xs,hx⟩,Zpz Pv h0 hs h1 hd⟩
 |_=>exact False.elim q
end
end L2
namespace LW
open PySem L2
def Zcp:List Nat:=(List.range 5).map (fun k=>32+k)++(List.range 89).map fun k=>38+k
theorem ZfG:Zcp.length=94:=by decide +kernel
def Zoo (ns:List Int) (k:Int):Int:=if k<ns.length then ns.getD k.toNat 0 else 0
theorem zJ {α:Type} {xs:List α} {i:Int} (d:α) (h0:0<=i) (h1:i<xs.length):atI xs i=some (xs.getD i.toNat d):=by
 unfold atI ixN
 rw [if_pos h0,if_pos h1]
 show xs[i.toNat]?=_
 rw [List.getD_eq_getElem?_getD]
 have:i.toNat<xs.length:=by omega
 rw [List.getElem?_eq_getElem this]
 rfl
theorem Zhd (l:List Int) (i:Nat):(l.map V.int).getD i (V.int 0)=V.int (l.getD i 0):=by
 rw [List.getD_eq_getElem?_getD,List.getD_eq_getElem?_getD,List.getElem?_map]
 cases l[i]?<;>rfl
theorem ZgS {l:List Int} {i:Int} (h0:0<=i) (h1:i<l.length):atI (l.map V.int) i=some (V.int (l.getD i.toNat 0)):=by
 rw [zJ (V.int 0) h0 (by simpa using h1),Zhd]
theorem Zkl {α β:Type} (g:α->β):∀l:List α,(l.map fun c=>[g c]).flatten=l.map g
 |[]=>rfl
 |x::r=>by
  rw [map_cons,map_cons,List.flatten_cons,Zkl g r]
  rfl
theorem Zoi {i:Nat} (h:i<94):Zcp.getD i 0∈Zcp:=by
 have:i<Zcp.length:=by rw [ZfG];exact h
 rw [List.getD_eq_getElem?_getD,List.getElem?_eq_getElem this]
 exact List.getElem_mem this
theorem ZpV {α β:Type} (g:α->β):∀l:List α,((l.map fun c=>[g c]).map List.length).sum=l.length
 |[]=>rfl
 |x::r=>by
  rw [map_cons,map_cons,List.sum_cons,ZpV g r,length_cons]
  show 1+r.length=r.length+1
  omega
theorem ZcU:L (Str.ofString "")=[]:=by decide +kernel
theorem Zge {α β:Type} (f:α->β) (l:List α) (lo hi:Option Int):cut (l.map f) lo hi=(cut l lo hi).map f:=by
 unfold cut
 rw [map_take,List.map_drop,length_map]
theorem Zi8 {H:Hp} {p p':Addr} {o o':HO} (h:upd H p o p'=none):upd (upd H p o) p' o' p=some o:=by
 have:p≠p':=by
  rintro rfl
  rw [Zj] at h
  cases h
 rw [Zn this,Zj]
end LW
namespace L2
open PySem PySem.Spec PyProof.Rows
section
variable {X:Cx} {pos:Pos}
def isS (x:V) (n:String):Option Bool:=match x with
 | .int _=>if n="int" then some true else if n="bool" then some false else if n="str" then some false else if n="list" then some false else if n="tuple" then some false else if n="dict" then some false else none
 | .bl _=>if n="int" then some true else if n="bool" then some true else if n="str" then some false else if n="list" then some false else if n="tuple" then some false else if n="dict" then some false else none
 | .str _=>if n="int" then some false else if n="bool" then some false else if n="str" then some true else if n="list" then some false else if n="tuple" then some false else if n="dict" then some false else none
 | .non=>if n="int" then some false else if n="bool" then some false else if n="str" then some false else if n="list" then some false else if n="tuple" then some false else if n="dict" then some false else none
 |_=>none
theorem ZuI {K:PySem.W.Frag} {H:Hp} {x:V} {n:String} {b:Bool} (h:isS x n=some b):∃t,ZcL K H x t/\kitOne K t (.type n)=some b:=by
 cases x with
 |int i=>
  refine ⟨_,.int i,?_⟩
  unfold isS at h
  dsimp only at h
  split at h
  ·rename_i e;subst e;cases h;rfl
  split at h
  ·rename_i e;subst e;cases h;rfl
  split at h
  ·rename_i e;subst e;cases h;rfl
  split at h
  ·rename_i e;subst e;cases h;rfl
  split at h
  ·rename_i e;subst e;cases h;rfl
  split at h
  ·rename_i e;subst e;cases h;rfl
  ·cases h
 |bl i=>
  refine ⟨_,.bl i,?_⟩
  unfold isS at h
  dsimp only at h
  split at h
  ·rename_i e;subst e;cases h;rfl
  split at h
  ·rename_i e;subst e;cases h;rfl
  split at h
  ·rename_i e;subst e;cases h;rfl
  split at h
  ·rename_i e;subst e;cases h;rfl
  split at h
  ·rename_i e;subst e;cases h;rfl
  split at h
  ·rename_i e;subst e;cases h;rfl
  ·cases h
 |str i=>
  refine ⟨_,.str i,?_⟩
  unfold isS at h
  dsimp only at h
  split at h
  ·rename_i e;subst e;cases h;rfl
  split at h
  ·rename_i e;subst e;cases h;rfl
  split at h
  ·rename_i e;subst e;cases h;rfl
  split at h
  ·rename_i e;subst e;cases h;rfl
  split at h
  ·rename_i e;subst e;cases h;rfl
  split at h
  ·rename_i e;subst e;cases h;rfl
  ·cases h
 |non=>
  refine ⟨_,.non,?_⟩
  unfold isS at h
  dsimp only at h
  split at h
  ·rename_i e;subst e;cases h;rfl
  split at h
  ·rename_i e;subst e;cases h;rfl
  split at h
  ·rename_i e;subst e;cases h;rfl
  split at h
  ·rename_i e;subst e;cases h;rfl
  split at h
  ·rename_i e;subst e;cases h;rfl
  split at h
  ·rename_i e;subst e;cases h;rfl
  ·cases h
 |_=>cases h
def ZqW (K:PySem.W.Frag):List V->Hp->VK->Prop:=fun xs H Q=>match xs with
 |[.ref p,.ty n]=>∃b t,ZcL K H (.ref p) t/\kitOne K t (.type n)=some b/\Q (.bl b) H
 |[x,.ty n]=>match isS x n with
  |some b=>Q (.bl b) H
  |none=>False
 |_=>False
theorem Zzv:Jc X (.builtin "isinstance") (ZqW X.K):=by
 intro Za s σ H xs us Q I r h
 unfold ZqW at h
 split at h
 ·rename_i p n
  obtain ⟨b,t,ty,e,q⟩:=h
  obtain ⟨u,w',rfl,ru,rw'⟩:=ZdL r
  cases rw'
  exact ZfE I ru ty e fun tk=>ZV (I.tok tk) q rfl
 ·rename_i x n _
  split at h
  ·rename_i b e
   obtain ⟨t,ty,e2⟩:=ZuI (K:=X.K) (H:=H) e
   obtain ⟨u,w',rfl,ru,rw'⟩:=ZdL r
   cases rw'
   exact ZfE I ru ty e2 fun tk=>ZV (I.tok tk) h rfl
  ·exact h.elim
 ·exact h.elim
end
section
variable {X:Cx} {K:PySem.W.Frag} {pos:Pos}
theorem Z1 (h:X.K=K):IxR X (ixV K):=h▸ZA2
theorem ZbK (h:X.K=K):SlR X (slV K):=h▸ZAE
theorem zr (h:X.K=K):Jc X (.builtin "len") (Jz K):=h▸Zz9
theorem Zr3 (h:X.K=K):Jc X (.builtin "isinstance") (ZqW K):=h▸Zzv
theorem Zb1 (h:X.K=K):MtR X "str.join" (ZcV K):=h▸Zuu
theorem Zbk {a:Expr} {ta:TE} (hK:X.K=K) (ha:PE X a ta) (he:∀whole,isTrue a X.env whole=(do let v <-whole;standAt a.pos;holding [v] (truthy v)):=by intro _;rfl):PT X a (trV K ta):=by
 subst hK
 exact Zzq ha he
variable {o e:Expr} {es:List Expr} {to:TE} {t:TA} {name:Str} {apos cpos:Pos} {T id:String} {r:V->List V->Hp->VK->Prop}
theorem ZqE (hK:X.K=K) (pa:PlainAttrs T) (slot:Slot T name id) (hty:typeOf (.builtin id)=pure (.type "method_descriptor")) (hm:MtR X id r) (ho:PE X o to)
 (hbase:attributeBase o name X.env (eval o X.env)=eval o X.env:=by rfl) (hline:(apos.endLine==cpos.line)=true:=by rfl):PE X (.Call (.Attribute o name apos) [] [] cpos) (ZwK K T r to):=by
 subst hK
 exact ZvO pa slot hty hm ho hbase hline
theorem zH (hK:X.K=K) (pa:PlainAttrs T) (slot:Slot T name id) (hty:typeOf (.builtin id)=pure (.type "method_descriptor")) (hm:MtR X id r) (ho:PE X o to) (ha:PA X (e::es) t)
 (hbase:attributeBase o name X.env (eval o X.env)=eval o X.env:=by rfl)
 (hfew:((backTo cpos (starEach (e::es) X.env)).all (fun x=> !x.1) && (backToKw cpos (keywordEach [] X.env)).all (fun x=>x.1.isSome)
  && decide ((e::es).length+([]:List Keyword).length+(if ([]:List Keyword).isEmpty then 0 else 1)<30))=true:=by rfl)
 (hline:(apos.endLine==cpos.line)=true:=by rfl) (hs:starEach (e::es) X.env=(false,eval e X.env)::starEach es X.env:=by rfl) (hplain:(backTo cpos (starEach es X.env)).any (·.1)=false:=by rfl):
 PE X (.Call (.Attribute o name apos) (e::es) [] cpos) (tBM K T r to t):=by
 subst hK
 exact ZzF pa slot hty hm ho ha hbase hfew hline hs hplain
theorem ZqI {l tg:Expr} {body:List Stmt} {tl:TE} {g:TG} {tb:TS} (hK:X.K=K) (hp:PassesOwn (model X.prog X.w) X.A X.env X.xe) (hc:X.calm=true) (hl:PE X l tl) (hg:PG X tg g) (hb:PSs X body tb)
 (hf:∀x,foldedSetIterable l X.env x=pure x:=by intro _;rfl):PS X (.For tg l body [] pos) (ZmP K tl g tb):=by
 subst hK
 exact Zvd hp hc hl hg hb hf
end
theorem zo:bootBuiltins "len"=some (.builtin "len"):=by decide +kernel
theorem Y2:bootBuiltins "isinstance"=some (.builtin "isinstance"):=by decide +kernel
theorem Zf5:bootBuiltins "sorted"=some (.builtin "sorted"):=by decide +kernel
theorem Zqv:bootBuiltins "list"=some (.type "list"):=by decide +kernel
theorem Zgg:bootBuiltins "int"=some (.type "int"):=by decide +kernel
theorem Zdl:bootBuiltins "str"=some (.type "str"):=by decide +kernel
theorem ZpZ:bootBuiltins "dict"=some (.type "dict"):=by decide +kernel
theorem ZeE:bootBuiltins "range"=some (.type "range"):=by decide +kernel
theorem Zhe:bootBuiltins "reversed"=some (.type "reversed"):=by decide +kernel
theorem ZwU:bootBuiltins "zip"=some (.type "zip"):=by decide +kernel
end L2
namespace LW
open PySem L2
def com:List Nat->List Nat->Nat
 |a::x,b::y=>if a=b then com x y+1 else 0
 |_,_=>0
end LW
namespace LS
open PySem PySem.W PyProof.Rows
abbrev gt (p:Array Nat) (k:Nat):Nat:=p.getD k 0
theorem ZhZ {p r:Array Nat} {k l:Nat} (h:p[k]?=r[l]?):gt p k=gt r l:=by
 unfold gt
 rw [Array.getD_eq_getD_getElem?,Array.getD_eq_getD_getElem?,h]
theorem ZaS {p:Array Nat} {i j:Nat} (hj:j<=p.size) (k:Nat):gt (kas_rev p i j) k=if i<=k/\k<j then gt p (i+j-1-k) else gt p k:=by
 have e:=getElem?_mirror_all (i:=i) hj k
 by_cases h:i<=k/\k<j
 ·rw [if_pos h] at e ⊢;exact ZhZ e
 ·rw [if_neg h] at e ⊢;exact ZhZ e
theorem ZeF {p:Array Nat} {a d:Nat} (hs:a<p.size) (hd:d<=a) (k:Nat):gt (bubble p a d) k=if k=a-d then gt p a else if a-d<k/\k<=a then gt p (k-1) else gt p k:=by
 have e:=getElem?_bubble hs d hd k
 by_cases h1:k=a-d
 ·rw [if_pos h1] at e ⊢;exact ZhZ e
 ·rw [if_neg h1] at e ⊢
  by_cases h2:a-d<k/\k<=a
  ·rw [if_pos h2] at e ⊢;exact ZhZ e
  ·rw [if_neg h2] at e ⊢;exact ZhZ e
def Pm (n:Nat) (p:Array Nat):Prop:=p.toList.Perm (List.range n)
theorem Pm.size {n:Nat} {p:Array Nat} (h:Pm n p):p.size=n:=by
 have:=h.length_eq
 simpa using this
theorem Pm.lt {n:Nat} {p:Array Nat} (h:Pm n p) {k:Nat} (hk:k<n):gt p k<n:=by
 have hs:=h.size
 have:gt p k∈p.toList:=by
  have hk':k<p.size:=by omega
  unfold gt
  rw [Array.getD_eq_getD_getElem?,Array.getElem?_eq_getElem hk']
  simp
 have:=h.mem_iff.mp this
 simpa using this
theorem Pm.rev {n:Nat} {p:Array Nat} (h:Pm n p) (i j:Nat):Pm n (kas_rev p i j):=(Array.perm_iff_toList_perm.mp (mirror_perm p i j _)).trans h
theorem Pm.bub {n:Nat} {p:Array Nat} (h:Pm n p) (a d:Nat):Pm n (bubble p a d):=(Array.perm_iff_toList_perm.mp (bubble_perm p a d)).trans h
section
variable {O:KeyOrd} {key:Nat->O.α} {n:Nat}
def Up (key:Nat->O.α) (p:Array Nat) (k:Nat):Prop:=∀i j,i<=j->j<k->O.kle (key (gt p i)) (key (gt p j))
def Dn (key:Nat->O.α) (p:Array Nat) (k:Nat):Prop:=∀i j,i<=j->j<k->O.kle (key (gt p j)) (key (gt p i))
theorem Zvb {p:Array Nat}:Up key p 1:=fun i j hij hj=>by
 have:i=j:=by omega
 subst this
 exact KeyOrd.kle_refl _
theorem ZbT {p:Array Nat} {i j:Nat} (hj:j<=p.size) (h:∀k,i<=k->k<j->key (gt p k)=key (gt p (j-1))) (k:Nat):key (gt (kas_rev p i j) k)=key (gt p k):=by
 rw [ZaS hj]
 split
 ·rw [h _ (by omega) (by omega),h k (by omega) (by omega)]
 ·rfl
structure ZdZ (key:Nat->O.α) (n:Nat) (J:Shared->Prop) (cmp:Nat->Nat->(Bool->Shared->Prop)->Shared->Prop):Prop where
 ask:∀i j C s,i<n->j<n->J s->(∀s',J s'->C (O.blt (key i) (key j)) s')->cmp i j C s
variable {J:Shared->Prop} {cmp:Nat->Nat->(Bool->Shared->Prop)->Shared->Prop}
theorem Ze9 (hc:ZdZ key n J cmp) {p:Array Nat} {k:Nat} (hp:Pm n p) (hk:k<n) (hu:Up key p k) {Q:Nat->Shared->Prop}:∀(f l r:Nat) (s:Shared),l<=r->r<=k->r-l<=f->(∀i,i<l->O.kle (key (gt p i)) (key (gt p k)))->(∀i,r<=i->i<k->O.klt (key (gt p k)) (key (gt p i)))->J s->
 (∀l s',J s'->l<=k->(∀i,i<l->O.kle (key (gt p i)) (key (gt p k)))->(∀i,l<=i->i<k->O.klt (key (gt p k)) (key (gt p i)))->Q l s')->(kas_place p k f l r).kasWp cmp Q s
 |0,l,r,s,h1,h2,h3,hlo,hhi,hj,h=>by
  have:l=r:=by omega
  subst this
  exact h l s hj h2 hlo hhi
 |f+1,l,r,s,h1,h2,h3,hlo,hhi,hj,h=>by
  unfold kas_place
  by_cases hge:l ≥ r
  ·rw [if_pos hge]
   have:l=r:=by omega
   subst this
   exact h l s hj h2 hlo hhi
  ·rw [if_neg hge]
   refine hc.ask _ _ _ _ (hp.lt (by omega)) (hp.lt (by omega)) hj fun s' hj'=>?_
   cases e:O.blt (key (gt p k)) (key (gt p ((l+r)/2))) with
   |true=>
    dsimp only
    rw [if_pos rfl]
    exact Ze9 hc hp hk hu f l ((l+r)/2) s' (by omega) (by omega) (by omega) hlo (fun i z1 z2=>KeyOrd.klt_of_klt_of_kle e (hu _ _ z1 z2)) hj' h
   |false=>
    dsimp only
    rw [if_neg Bool.false_ne_true]
    exact Ze9 hc hp hk hu f ((l+r)/2+1) r s' (by omega) (by omega) (by omega) (fun i z=>KeyOrd.kle_trans (hu i ((l+r)/2) (by omega) (by omega)) e) hhi hj' h
end
theorem Pm.inj {n:Nat} {p:Array Nat} (h:Pm n p) {i j:Nat} (hi:i<n) (hj:j<n) (e:gt p i=gt p j):i=j:=by
 have hs:=h.size
 have nd:p.toList.Nodup:=h.nodup_iff.mpr List.nodup_range
 have gi:gt p i=p.toList[i]'(by simp;omega):=by
  unfold gt
  rw [Array.getD_eq_getD_getElem?,Array.getElem?_eq_getElem (by omega)]
  simp
 have gj:gt p j=p.toList[j]'(by simp;omega):=by
  unfold gt
  rw [Array.getD_eq_getD_getElem?,Array.getElem?_eq_getElem (by omega)]
  simp
 rw [gi,gj] at e
 rcases Nat.lt_trichotomy i j with h1|h1|h1
 ·exact absurd e (List.pairwise_iff_getElem.mp nd i j (by simp;omega) (by simp;omega) h1)
 ·exact h1
 ·exact absurd e.symm (List.pairwise_iff_getElem.mp nd j i (by simp;omega) (by simp;omega) h1)
def Fx (n:Nat) (p:Array Nat) (a:Nat):Prop:=∀k,a<=k->k<n->gt p k=k
theorem Fx.mono {n a b:Nat} {p:Array Nat} (h:Fx n p a) (hab:a<=b):Fx n p b:=fun k h1 h2=>h k (Nat.le_trans hab h1) h2
theorem Fx.low {n a i:Nat} {p:Array Nat} (h:Fx n p a) (hp:Pm n p) (ha:a<=n) (hi:i<a):gt p i<a:=by
 have hl:=hp.lt (k:=i) (by omega)
 refine Nat.lt_of_not_le fun hge=>?_
 have e:=h (gt p i) hge hl
 have:=hp.inj hl (by omega) e
 omega
theorem Fx.rev {n a i j:Nat} {p:Array Nat} (h:Fx n p a) (hp:Pm n p) (hj:j<=a) (ha:a<=n):Fx n (kas_rev p i j) a:=fun k h1 h2=>by
 have hs:=hp.size
 rw [ZaS (by omega),if_neg (by omega)]
 exact h k h1 h2
section
variable {O:KeyOrd} {key:Nat->O.α} {n:Nat}
def St (key:Nat->O.α) (p:Array Nat) (k:Nat):Prop:=∀i j,i<j->j<k->key (gt p i)=key (gt p j)->gt p i<gt p j
def Sd (key:Nat->O.α) (p:Array Nat) (k:Nat):Prop:=∀i j,i<j->j<k->key (gt p i)=key (gt p j)->gt p j<gt p i
def Ust (key:Nat->O.α) (p:Array Nat) (k:Nat):Prop:=Up key p k/\St key p k
variable {J:Shared->Prop} {cmp:Nat->Nat->(Bool->Shared->Prop)->Shared->Prop}
theorem ZqF {p:Array Nat} (hp:Pm n p) {a:Nat} (ha:a<n) (fx:Fx n p a) (st:St key p a):St key p (a+1):=fun i j hij hj e=>by
 by_cases h:j<a
 ·exact st i j hij h e
 ·have:j=a:=by omega
  subst this
  rw [fx j (Nat.le_refl _) ha]
  exact fx.low hp (by omega) hij
theorem ZiR (hc:ZdZ key n J cmp) {p:Array Nat} (hp:Pm n p) {Q:Nat->Shared->Prop}:∀(f a:Nat) (s:Shared),1<=a->a+f<=n->Ust key p a->Fx n p a->J s->
 (∀m s',J s'->a<=m->m<=a+f->Ust key p m->Fx n p m->(m=a+f\/O.klt (key (gt p m)) (key (gt p (m-1))))->Q m s')->(kas_asc p f a).kasWp cmp Q s
 |0,a,s,h1,h2,hu,fx,hj,h=>h a s hj (Nat.le_refl _) (Nat.le_refl _) hu fx (.inl rfl)
 |f+1,a,s,h1,h2,hu,fx,hj,h=>by
  refine hc.ask _ _ _ _ (hp.lt (by omega)) (hp.lt (by omega)) hj fun s' hj'=>?_
  cases e:O.blt (key (gt p a)) (key (gt p (a-1))) with
  |true=>
   show (if true=true then KasT.ret a else kas_asc p f (a+1)).kasWp cmp Q s'
   rw [if_pos rfl]
   exact h a s' hj' (Nat.le_refl _) (by omega) hu fx (.inr e)
  |false=>
   show (if false=true then KasT.ret a else kas_asc p f (a+1)).kasWp cmp Q s'
   rw [if_neg Bool.false_ne_true]
   refine ZiR hc hp f (a+1) s' (by omega) (by omega) ⟨fun i j hij hj2=>?_,ZqF hp (by omega) fx hu.2⟩ (fx.mono (by omega)) hj' fun m s2 q1 q2 q3 q4 q5 q6=>h m s2 q1 (by omega) (by omega) q4 q5 (q6.imp (fun z=>by omega) id)
   by_cases hja:j<a
   ·exact hu.1 i j hij hja
   ·have:j=a:=by omega
    subst this
    by_cases hi:i=j
    ·subst hi;exact KeyOrd.kle_refl _
    ·exact KeyOrd.kle_trans (hu.1 i (j-1) (by omega) (by omega)) e
structure Ds (key:Nat->O.α) (n:Nat) (p:Array Nat) (a q:Nat):Prop where
 dn:Dn key p a
 sd:Sd key p (a-(q+1))
 lt:∀i j,i<a-(q+1)->a-(q+1)<=j->j<a->O.klt (key (gt p j)) (key (gt p i))
 up:∀i j,a-(q+1)<=i->i<j->j<a->gt p i<gt p j
 fx:Fx n p a
 eq:∀i,a-(q+1)<=i->i<a->key (gt p i)=key (gt p (a-1))
theorem Ziy {x y:O.α} (h:O.klt x y):x≠y:=fun e=>by
 subst e
 have:O.blt x x=true:=h
 rw [O.irrefl] at this
 cases this
theorem Ds.turn {p:Array Nat} {a q:Nat} (hp:Pm n p) (ha:a<=n) (hq:q+1<=a) (d:Ds key n p a q):Sd key (kas_rev p (a-(q+1)) a) a:=fun i j hij hj e=>by
 have hs:=hp.size
 have rs:=ZbT (key:=key) (p:=p) (i:=a-(q+1)) (j:=a) (by omega) d.eq
 rw [rs,rs] at e
 rw [ZaS (by omega),ZaS (by omega)]
 by_cases h1:a-(q+1)<=i
 ·rw [if_pos ⟨by omega,hj⟩,if_pos ⟨h1,by omega⟩]
  exact d.up _ _ (by omega) (by omega) (by omega)
 ·by_cases h2:a-(q+1)<=j
  ·exact absurd e.symm (Ziy (d.lt i j (by omega) h2 hj))
  ·rw [if_neg (by omega),if_neg (by omega)]
   exact d.sd i j hij (by omega) e
theorem Ds.one {p:Array Nat} {a:Nat} (ha:1<=a) (d:Ds key n p a 0):Sd key p a:=fun i j hij hj e=>by
 by_cases h2:j<a-1
 ·exact d.sd i j hij (by omega) e
 ·exact absurd e.symm (Ziy (d.lt i j (by omega) (by omega) hj))
theorem ZgB (hc:ZdZ key n J cmp) {Q:Array Nat×Nat×Nat->Shared->Prop}:∀(f:Nat) (p:Array Nat) (a q:Nat) (s:Shared),Pm n p->1<=a->a+f<=n->q+1<=a->Ds key n p a q->J s->
 (∀p' m q' s',J s'->Pm n p'->a<=m->m<=a+f->q'+1<=m->Ds key n p' m q'->Q (p',m,q') s')->(kas_desc f p a q).kasWp cmp Q s
 |0,p,a,q,s,hp,h1,h2,hq,d,hj,h=>h p a q s hj hp (Nat.le_refl _) (Nat.le_refl _) hq d
 |f+1,p,a,q,s,hp,h1,h2,hq,d,hj,h=>by
  refine hc.ask _ _ _ _ (hp.lt (by omega)) (hp.lt (by omega)) hj fun s' hj'=>?_
  have hsz:=hp.size
  cases e:O.blt (key (gt p a)) (key (gt p (a-1))) with
  |true=>
   show (if true=true then (if q>0 then kas_desc f (kas_rev p (a-(q+1)) a) (a+1) 0 else kas_desc f p (a+1) 0) else _).kasWp cmp Q s'
   rw [if_pos rfl]
   have go:∀r:Array Nat,Pm n r->(∀k,key (gt r k)=key (gt p k))->Sd key r a->Fx n r a->(kas_desc f r (a+1) 0).kasWp cmp Q s':=fun r hr hk sd fx=>by
    have low:∀i,i<a->O.klt (key (gt p a)) (key (gt p i)):=fun i hi=>by
     refine KeyOrd.klt_of_klt_of_kle e ?_
     exact d.dn i (a-1) (by omega) (by omega)
    refine ZgB hc f r (a+1) 0 s' hr (by omega) (by omega) (by omega) ⟨fun i j hij hj2=>?_,?_,fun i j hi hj1 hj2=>?_,fun i j h1 h2 h3=>by omega,fx.mono (by omega),fun i z1 z2=>by congr 2;omega⟩ hj' fun p' m q' s2 y1 y2 y3 y4 y5 y6=>h p' m q' s2 y1 y2 (by omega) (by omega) y5 y6
    ·rw [hk,hk]
     by_cases hja:j<a
     ·exact d.dn i j hij hja
     ·have:j=a:=by omega
      subst this
      by_cases hi:i=j
      ·subst hi;exact KeyOrd.kle_refl _
      ·exact KeyOrd.kle_of_klt (low i (by omega))
    ·rw [show a+1-(0+1)=a by omega]
     exact sd
    ·have:j=a:=by omega
     subst this
     rw [hk,hk]
     exact low i (by omega)
   by_cases h0:q>0
   ·rw [if_pos h0]
    exact go _ (hp.rev _ _) (ZbT (by omega) d.eq) (d.turn hp (by omega) hq) (d.fx.rev hp (Nat.le_refl _) (by omega))
   ·rw [if_neg h0]
    have:q=0:=by omega
    subst this
    exact go _ hp (fun _=>rfl) (d.one h1) d.fx
  |false=>
   show (if false=true then _ else KasT.ask (gt p (a-1)) (gt p a) fun d=>if d=true then .ret (p,a,q) else kas_desc f p (a+1) (q+1)).kasWp cmp Q s'
   rw [if_neg Bool.false_ne_true]
   refine hc.ask _ _ _ _ (hp.lt (by omega)) (hp.lt (by omega)) hj' fun s2 hj2=>?_
   cases e2:O.blt (key (gt p (a-1))) (key (gt p a)) with
   |true=>
    show (if true=true then KasT.ret (p,a,q) else kas_desc f p (a+1) (q+1)).kasWp cmp Q s2
    rw [if_pos rfl]
    exact h p a q s2 hj2 hp (Nat.le_refl _) (by omega) hq d
   |false=>
    show (if false=true then KasT.ret (p,a,q) else kas_desc f p (a+1) (q+1)).kasWp cmp Q s2
    rw [if_neg Bool.false_ne_true]
    have ex:key (gt p a)=key (gt p (a-1)):=KeyOrd.kle_antisymm e2 e
    have eB:a+1-(q+1+1)=a-(q+1):=by omega
    refine ZgB hc f p (a+1) (q+1) s2 hp (by omega) (by omega) (by omega) ⟨fun i j hij hj3=>?_,?_,fun i j hi hj1 hj3=>?_,fun i j k1 k2 k3=>?_,d.fx.mono (by omega),fun i z1 z2=>?_⟩ hj2 fun p' m q' s3 y1 y2 y3 y4 y5 y6=>h p' m q' s3 y1 y2 (by omega) (by omega) y5 y6
    ·by_cases hja:j<a
     ·exact d.dn i j hij hja
     ·have:j=a:=by omega
      subst this
      by_cases hi:i=j
      ·subst hi;exact KeyOrd.kle_refl _
      ·rw [ex];exact d.dn i (j-1) (by omega) (by omega)
    ·rw [eB]
     exact d.sd
    ·rw [eB] at hi hj1
     by_cases hja:j<a
     ·exact d.lt i j hi hj1 hja
     ·have:j=a:=by omega
      subst this
      rw [ex]
      exact d.lt i (j-1) hi (by omega) (by omega)
    ·rw [eB] at k1
     by_cases hja:j<a
     ·exact d.up i j k1 k2 hja
     ·have:j=a:=by omega
      subst this
      rw [d.fx j (Nat.le_refl _) (by omega)]
      exact d.fx.low hp (by omega) (by omega)
    ·rw [show a+1-1=a by omega]
     by_cases hi:i=a
     ·subst hi;rfl
     ·rw [ex];exact d.eq i (by omega) (by omega)
theorem Zkk (hc:ZdZ key n J cmp) {p:Array Nat} {a nrem:Nat} {s:Shared} {Q:Nat×Array Nat->Shared->Prop} (hp:Pm n p) (h1:1<=a) (h2:a<=nrem) (h3:nrem<=n) (hd:Dn key p a) (sd:Sd key p a) (fx:Fx n p a) (hj:J s)
 (h:∀m p' s',J s'->Pm n p'->1<=m->m<=nrem->Ust key p' m->Fx n p' m->Q (m,p') s'):(kas_tail3 a nrem p).kasWp cmp Q s:=by
 unfold kas_tail3
 rw [KasT.kasWp_bind]
 have hsz:=hp.size
 refine ZiR hc (hp.rev 0 a) (nrem-a) a s h1 (by omega) ⟨fun i j hij hj2=>?_,fun i j hij hj2 e=>?_⟩ (fx.rev hp (Nat.le_refl _) (by omega)) hj fun m s' y1 y2 y3 y4 y5 _=>h m _ s' y1 (hp.rev 0 a) (by omega) (by omega) y4 y5
 ·rw [ZaS (by omega),ZaS (by omega),if_pos (by omega),if_pos (by omega)]
  exact hd _ _ (by omega) (by omega)
 ·rw [ZaS (by omega),ZaS (by omega),if_pos (by omega),if_pos (by omega)] at e ⊢
  exact sd _ _ (by omega) (by omega) e.symm
theorem ZdU (hc:ZdZ key n J cmp) {p:Array Nat} {a nrem:Nat} {s:Shared} {Q:Nat×Array Nat->Shared->Prop} (hp:Pm n p) (h2:a+1<=nrem) (h3:nrem<=n) (d:Ds key n p (a+1) 0) (hj:J s)
 (h:∀m p' s',J s'->Pm n p'->1<=m->m<=nrem->Ust key p' m->Fx n p' m->Q (m,p') s'):(kas_descPart a nrem p).kasWp cmp Q s:=by
 unfold kas_descPart
 rw [KasT.kasWp_bind]
 refine ZgB hc (nrem-(a+1)) p (a+1) 0 s hp (by omega) (by omega) (by omega) d hj fun p' m q' s' y1 y2 y3 y4 y5 y6=>?_
 dsimp only
 have hsz:=y2.size
 by_cases h0:q'>0
 ·rw [if_pos h0]
  refine Zkk hc (y2.rev _ _) (by omega) (by omega) h3 (fun i j hij hj2=>?_) (y6.turn y2 (by omega) y5) (y6.fx.rev y2 (Nat.le_refl _) (by omega)) y1 h
  rw [ZbT (by omega) y6.eq,ZbT (by omega) y6.eq]
  exact y6.dn i j hij hj2
 ·rw [if_neg h0]
  have:q'=0:=by omega
  subst this
  exact Zkk hc y2 (by omega) (by omega) h3 y6.dn (y6.one (by omega)) y6.fx y1 h
theorem Zo0 (hc:ZdZ key n J cmp) {p:Array Nat} {s:Shared} {Q:Nat×Array Nat->Shared->Prop} (hp:Pm n p) (h1:1<=n) (fx:Fx n p 1) (hj:J s)
 (h:∀m p' s',J s'->Pm n p'->1<=m->m<=n->Ust key p' m->Fx n p' m->Q (m,p') s'):(kas_count n p).kasWp cmp Q s:=by
 unfold kas_count
 rw [KasT.kasWp_bind]
 have hsz:=hp.size
 refine ZiR hc hp (n-1) 1 s (Nat.le_refl _) (by omega) ⟨Zvb,fun i j h1 h2=>by omega⟩ fx hj fun m s' y1 y2 y3 y4 y6 y5=>?_
 by_cases hm:m=n
 ·rw [if_pos (by simpa using hm)]
  exact h m p s' y1 hp y2 (by omega) y4 y6
 ·rw [if_neg (by simpa using hm)]
  have hlt:O.klt (key (gt p m)) (key (gt p (m-1))):=y5.resolve_left (by omega)
  by_cases hg:m>1
  ·rw [if_pos hg]
   refine hc.ask _ _ _ _ (hp.lt (by omega)) (hp.lt (by omega)) y1 fun s2 hj2=>?_
   cases e:O.blt (key (gt p 0)) (key (gt p (m-1))) with
   |true=>
    dsimp only
    rw [if_pos rfl]
    exact h m p s2 hj2 hp y2 (by omega) y4 y6
   |false=>
    dsimp only
    rw [if_neg Bool.false_ne_true]
    have hall:∀k,0<=k->k<m->key (gt p k)=key (gt p (m-1)):=fun k _ hk=>
     KeyOrd.kle_antisymm (y4.1 k (m-1) (by omega) (by omega)) (KeyOrd.kle_trans e (y4.1 0 k (by omega) hk))
    have rs:=ZbT (key:=key) (p:=p) (i:=0) (j:=m) (by omega) hall
    refine ZdU hc (hp.rev 0 m) (by omega) (Nat.le_refl _) ⟨fun i j hij hj3=>?_,fun i j hij hj3 _=>?_,fun i j hi hj1 hj3=>?_,fun i j k1 k2 k3=>by omega,(y6.rev hp (Nat.le_refl _) (by omega)).mono (by omega),fun i z1 z2=>by congr 2;omega⟩ hj2 h
    ·rw [rs,rs]
     by_cases hjm:j<m
     ·rw [hall i (by omega) (by omega),hall j (by omega) hjm];exact KeyOrd.kle_refl _
     ·have:j=m:=by omega
      subst this
      by_cases hi:i=j
      ·subst hi;exact KeyOrd.kle_refl _
      ·rw [hall i (by omega) (by omega)];exact KeyOrd.kle_of_klt hlt
    ·rw [ZaS (by omega),ZaS (by omega),if_pos (by omega),if_pos (by omega)]
     refine y4.2 _ _ (by omega) (by omega) ?_
     rw [hall _ (by omega) (by omega),hall (0+m-1-i) (by omega) (by omega)]
    ·have:j=m:=by omega
     subst this
     rw [rs,rs,hall i (by omega) (by omega)]
     exact hlt
  ·rw [if_neg hg]
   have:m=1:=by omega
   subst this
   refine ZdU hc hp (by omega) (Nat.le_refl _) ⟨fun i j hij hj3=>?_,fun i j hij hj3 _=>by omega,fun i j hi hj1 hj3=>?_,fun i j k1 k2 k3=>by omega,y6.mono (by omega),fun i z1 z2=>by congr 2;omega⟩ y1 h
   ·by_cases hi:i=j
    ·subst hi;exact KeyOrd.kle_refl _
    ·have hi0:i=0:=by omega
     have hj1:j=1:=by omega
     subst hi0 hj1
     exact KeyOrd.kle_of_klt hlt
   ·have hi0:i=0:=by omega
    have hj1:j=1:=by omega
    subst hi0 hj1
    exact hlt
theorem Znt (hc:ZdZ key n J cmp) {Q:Array Nat->Shared->Prop}:∀(f:Nat) (p:Array Nat) (k:Nat) (s:Shared),Pm n p->k+f=n->Ust key p k->Fx n p k->J s->(∀p' s',J s'->Pm n p'->Ust key p' n->Q p' s')->(kas_bin f p k).kasWp cmp Q s
 |0,p,k,s,hp,hk,hu,fx,hj,h=>by
  have:k=n:=by omega
  subst this
  exact h p s hj hp hu
 |f+1,p,k,s,hp,hk,hu,fx,hj,h=>by
  unfold kas_bin
  rw [KasT.kasWp_bind]
  have hsz:=hp.size
  refine Ze9 hc hp (by omega) hu.1 k 0 k s (by omega) (Nat.le_refl _) (by omega) (fun i z=>by omega) (fun i z1 z2=>by omega) hj fun l s' hj' hl hlo hhi=>?_
  refine Znt hc f (bubble p k (k-l)) (k+1) s' (hp.bub _ _) (by omega) ⟨fun i j hij hj2=>?_,fun i j hij hj2 e=>?_⟩ (fun x h1 h2=>?_) hj' h
  ·rw [ZeF (by omega) (by omega),ZeF (by omega) (by omega),show k-(k-l)=l by omega]
   repeat' split
   all_goals first
    |(exfalso;omega)
    |exact KeyOrd.kle_refl _
    |exact hlo _ (by omega)
    |exact KeyOrd.kle_of_klt (hhi _ (by omega) (by omega))
    |exact hu.1 _ _ (by omega) (by omega)
  ·rw [ZeF (by omega) (by omega),ZeF (by omega) (by omega),show k-(k-l)=l by omega] at e ⊢
   have ek:=fx k (Nat.le_refl _) (by omega)
   have low:∀x,x<k->gt p x<gt p k:=fun x hx=>by rw [ek];exact fx.low hp (by omega) hx
   by_cases i1:i=l
   ·rw [if_pos i1] at e ⊢
    rw [if_neg (by omega),if_pos (by omega)] at e ⊢
    exact absurd e (Ziy (hhi (j-1) (by omega) (by omega)))
   ·rw [if_neg i1] at e ⊢
    by_cases i2:l<i
    ·rw [if_pos (by omega),if_neg (by omega),if_pos (by omega)] at e ⊢
     exact hu.2 _ _ (by omega) (by omega) e
    ·rw [if_neg (by omega)] at e ⊢
     by_cases j1:j=l
     ·rw [if_pos j1] at e ⊢
      exact low i (by omega)
     ·rw [if_neg j1] at e ⊢
      by_cases j2:l<j
      ·rw [if_pos (by omega)] at e ⊢
       exact hu.2 _ _ (by omega) (by omega) e
      ·rw [if_neg (by omega)] at e ⊢
       exact hu.2 _ _ hij (by omega) e
  ·rw [ZeF (by omega) (by omega),if_neg (by omega),if_neg (by omega)]
   exact fx x (by omega) h2
theorem Zkf (hc:ZdZ key n J cmp) {s:Shared} {Q:Array Nat->Shared->Prop} (h1:1<=n) (hj:J s) (h:∀p s',J s'->Pm n p->Ust key p n->Q p s'):(kas_sort n).kasWp cmp Q s:=by
 unfold kas_sort
 rw [KasT.kasWp_bind]
 have hp:Pm n (List.toArray (List.range n)):=by
  unfold Pm
  simp
 refine Zo0 hc hp h1 (fun k hk1 hk=>?_) hj fun m p' s' y1 y2 y3 y4 y5 y6=>?_
 ·unfold gt
  rw [Array.getD_eq_getD_getElem?,List.getElem?_toArray,List.getElem?_range hk]
  rfl
 dsimp only
 by_cases hm:m<n
 ·rw [if_pos hm]
  refine Znt hc (n-max m 1) p' (max m 1) s' y2 (by omega) ?_ ?_ y1 h
  ·rw [show max m 1=m by omega]
   exact y5
  ·rw [show max m 1=m by omega]
   exact y6
 ·rw [if_neg hm]
  have:m=n:=by omega
  subst this
  exact h p' s' y1 y2 y5
theorem Zot (hc:ZdZ key n J cmp) {s:Shared} {Q:Array Nat->Shared->Prop} (h1:1<=n) (hj:J s) (h:∀p s',J s'->Pm n p->Up key p n->Q p s'):(kas_sort n).kasWp cmp Q s:=Zkf hc h1 hj fun p s' a b u=>h p s' a b u.1
end
end LS
namespace LO
def eLe (l:List Nat) (i j:Nat):Bool:=decide (l.drop i<=l.drop j)
def ord (l:List Nat):List Nat:=(List.range (l.length+1)).mergeSort (eLe l)
theorem ZbF (l:List Nat):(ord l).Perm (List.range (l.length+1)):=List.mergeSort_perm _ _
theorem JI (l:List Nat):(ord l).length=l.length+1:=by
 rw [(ZbF l).length_eq,length_range]
theorem Zaf {l:List Nat} {i:Nat}:i∈ord l↔i<=l.length:=by
 rw [(ZbF l).mem_iff,List.mem_range]
 omega
theorem ZkE (l:List Nat):(ord l).Nodup:=(ZbF l).symm.nodup List.nodup_range
theorem ZnT (l:List Nat):(ord l).Pairwise (fun i j=>l.drop i<=l.drop j):=by
 have h:=List.pairwise_mergeSort (le:=eLe l) (fun a b c h1 h2=>by
  unfold eLe at *
  simp only [decide_eq_true_eq] at *
  exact List.le_trans h1 h2) (fun a b=>by
  unfold eLe
  simp only [Bool.or_eq_true,decide_eq_true_eq]
  exact List.le_total _ _) (List.range (l.length+1))
 refine h.imp fun h=>?_
 simpa [eLe] using h
theorem Zhq {l:List Nat} {i j:Nat} (hi:i<=l.length) (hj:j<=l.length) (h:l.drop i=l.drop j):i=j:=by
 have:=congrArg List.length h
 rw [length_drop,length_drop] at this
 omega
theorem ZiZ {l:List Nat} {i j:Nat} (hi:i<=l.length) (hj:j<=l.length) (hn:i≠j) (h:l.drop i<=l.drop j):l.drop i<l.drop j:=by
 rcases List.le_iff_lt_or_eq.mp h with h|h
 ·exact h
 ·exact absurd (Zhq hi hj h) hn
theorem Zvl (l:List Nat):(ord l).Pairwise (fun i j=>l.drop i<l.drop j):=by
 have h1:=ZnT l
 have h2:(ord l).Pairwise (· ≠·):=ZkE l
 have h3:=h1.and h2
 refine List.Pairwise.imp_of_mem ?_ h3
 intro a b ha hb h
 exact ZiZ (Zaf.mp ha) (Zaf.mp hb) h.2 h.1
theorem ZhN {l p:List Nat} (hp:p.Perm (List.range (l.length+1))) (hs:p.Pairwise (fun i j=>l.drop i<=l.drop j)):p=ord l:=by
 refine List.Perm.eq_of_pairwise (le:=fun i j=>l.drop i<=l.drop j) (fun a b ha hb h1 h2=>?_) hs (ZnT l) (hp.trans (ZbF l).symm)
 have ha:=hp.mem_iff.mp ha
 have hb:=Zaf.mp hb
 rw [List.mem_range] at ha
 exact Zhq (by omega) hb (List.le_antisymm h1 h2)
theorem ZcT {α:Type} {lt:α->α->Bool} (irr:∀a,lt a a=false) (asym:∀a b,lt a b=true->lt b a=false):∀{xs:List α},xs.Pairwise (fun a b=>lt a b=true)->∀{k:Nat} {x:α},xs[k]?=some x->xs.countP (fun a=>lt a x)=k
 |[],_,k,x,h=>by simp at h
 |a::r,hp,0,x,h=>by
  simp at h
  subst h
  rw [List.countP_cons,irr]
  have:r.countP (fun b=>lt b a)=0:=by
   rw [List.countP_eq_zero]
   intro b hb
   have:=(List.pairwise_cons.mp hp).1 b hb
   rw [asym _ _ this]
   simp
  rw [this]
  simp
 |a::r,hp,k+1,x,h=>by
  have hx:r[k]?=some x:=by simpa using h
  have ih:=ZcT irr asym (List.pairwise_cons.mp hp).2 hx
  have:lt a x=true:=(List.pairwise_cons.mp hp).1 x (List.mem_of_getElem? hx)
  rw [List.countP_cons,ih,this]
  simp
def ZhK (l:List Nat) (j:Nat):Nat:=(List.range (l.length+1)).countP (fun i=>decide (l.drop i<l.drop j))
theorem Zgf {l:List Nat} {k j:Nat} (h:(ord l)[k]?=some j):ZhK l j=k:=by
 have hp:(ord l).Pairwise (fun a b=>decide (l.drop a<l.drop b)=true):=(Zvl l).imp fun h=>decide_eq_true h
 have:=ZcT (lt:=fun a b=>decide (l.drop a<l.drop b)) (fun a=>decide_eq_false (List.lt_irrefl _)) (fun a b h=>by
  have h:=of_decide_eq_true h
  exact decide_eq_false fun z=>List.lt_irrefl _ (List.lt_trans h z)) hp h
 rw [<-this]
 exact ((ZbF l).countP_eq _).symm
theorem Zg4 {l:List Nat} {j:Nat} (hj:j<=l.length):(ord l)[ZhK l j]?=some j:=by
 obtain ⟨k,hk⟩:=List.getElem?_of_mem (Zaf.mpr hj)
 rw [Zgf hk]
 exact hk
theorem ZpO {l:List Nat} {j:Nat} (hj:j<=l.length):ZhK l j<l.length+1:=by
 have:=(List.getElem?_eq_some_iff.mp (Zg4 hj)).1
 rw [JI] at this
 exact this
def Zcq (l:List Nat) (p:Nat):Option Nat:=if p=0 then none else l[p-1]?
def Ziu (l:List Nat):List (Option Nat):=(ord l).map (Zcq l)
def Z5 (l:List Nat):List Nat:=(ord l).filterMap (Zcq l)
def Zdg (l:List Nat):Nat:=ZhK l 0
theorem ZdW (l:List Nat):(Ziu l).length=l.length+1:=by
 unfold Ziu
 rw [length_map,JI]
theorem Zjt {l:List Nat} {k j:Nat} (h:(ord l)[k]?=some j):(Ziu l)[k]?=some (Zcq l j):=by
 unfold Ziu
 rw [List.getElem?_map,h]
 rfl
def ZjQ (c:Nat):Option Nat->Bool
 |some d=>decide (d<c)
 |none=>false
def ZgO (rs:List (Option Nat)) (c:Nat):Nat:=rs.countP (ZjQ c)
def Y9 (rs:List (Option Nat)) (c k:Nat):Nat:=(rs.take k).countP (fun o=>o==some c)
abbrev Rs:=List (Option Nat)
def bk (rs:Rs) (k:Nat):Option Nat:=match rs[k]? with
 |some (some c)=>some (1+ZgO rs c+Y9 rs c k)
 |_=>none
def Zis (rs:Rs):List Nat:=rs.filterMap id
theorem Zle {rs:Rs} {c k k':Nat} (h:k<=k'):Y9 rs c k<=Y9 rs c k':=by
 unfold Y9
 exact List.Sublist.countP_le (List.take_sublist_take_left h)
theorem Zhw {rs:Rs} {c k:Nat} (h:rs[k]?=some (some c)):Y9 rs c (k+1)=Y9 rs c k+1:=by
 unfold Y9
 rw [List.take_succ,h,List.countP_append]
 simp [List.countP_cons]
theorem Zdy {rs:Rs} {c k k':Nat} (h:rs[k]?=some (some c)) (hk:k<k'):Y9 rs c k<Y9 rs c k':=by
 have h1:=Zhw h
 have h2:Y9 rs c (k+1)<=Y9 rs c k':=Zle hk
 omega
theorem ZiJ (rs:Rs) (c:Nat):Y9 rs c rs.length=rs.count (some c):=by
 unfold Y9
 rw [List.take_length]
 rfl
theorem Zbh {rs:Rs} {c k:Nat} (h:rs[k]?=some (some c)):Y9 rs c k<rs.count (some c):=by
 rw [<-ZiJ]
 exact Zdy h (List.getElem?_eq_some_iff.mp h).1
theorem Zh4 (rs:Rs) {c d:Nat} (h:c<d):ZgO rs c+rs.count (some c)<=ZgO rs d:=by
 unfold ZgO ZjQ
 induction rs with
 |nil=>simp
 |cons o r ih=>
  rw [List.countP_cons,List.countP_cons,List.count_cons]
  cases o with
  |none=>simpa using ih
  |some e=>
   by_cases h1:e<c
   ·have h2:e<d:=by omega
    have h3:¬e=c:=by omega
    simp [h1,h2,h3];omega
   ·by_cases h2:e=c
    ·subst h2;simp [h];omega
    ·simp [h1,h2]
     split<;>omega
theorem Zl2 (rs:Rs) (c:Nat):ZgO rs c+rs.count (some c)<=(Zis rs).length:=by
 unfold ZgO ZjQ Zis
 induction rs with
 |nil=>simp
 |cons o r ih=>
  rw [List.countP_cons,List.count_cons]
  cases o with
  |none=>simpa using ih
  |some e=>
   by_cases h1:e<c
   ·have h3:¬e=c:=by omega
    simp [h1,h3];omega
   ·by_cases h2:e=c
    ·subst h2;simp;omega
    ·simp [h1,h2];omega
theorem Zgo {rs:Rs} {k c:Nat} (h:rs[k]?=some (some c)):bk rs k=some (1+ZgO rs c+Y9 rs c k):=by
 unfold bk
 rw [h]
theorem Zq4 {rs:Rs} {k k' c d b b':Nat} (h:rs[k]?=some (some c)) (h':rs[k']?=some (some d)) (e:bk rs k=some b) (e':bk rs k'=some b'):b<b'↔c<d\/(c=d/\k<k'):=by
 rw [Zgo h] at e
 rw [Zgo h'] at e'
 cases e;cases e'
 rcases Nat.lt_trichotomy c d with z|z|z
 ·have h1:=Zh4 rs z
  have h2:=Zbh h
  constructor
  ·intro _;exact .inl z
  ·intro _;omega
 ·subst z
  constructor
  ·intro q
   refine .inr ⟨rfl,?_⟩
   rcases Nat.lt_trichotomy k k' with y|y|y
   ·exact y
   ·subst y;omega
   ·have:=Zdy h' y;omega
  ·rintro (q|⟨_,q⟩)
   ·omega
   ·have:=Zdy h q;omega
 ·have h1:=Zh4 rs z
  have h2:=Zbh h'
  constructor
  ·intro q;omega
  ·rintro (q|⟨q,_⟩)<;>omega
theorem Zst {rs:Rs} {k k' b:Nat} (e:bk rs k=some b) (e':bk rs k'=some b):k=k':=by
 have ex:∀{k:Nat},bk rs k=some b->∃c,rs[k]?=some (some c):=by
  intro k e
  unfold bk at e
  split at e
  ·rename_i c h;exact ⟨c,h⟩
  ·cases e
 obtain ⟨c,h⟩:=ex e
 obtain ⟨d,h'⟩:=ex e'
 have a1:=Zq4 h h' e e'
 have a2:=Zq4 h' h e' e
 have n1:¬(c<d\/(c=d/\k<k')):=fun z=>absurd (a1.mpr z) (Nat.lt_irrefl _)
 have n2:¬(d<c\/(d=c/\k'<k)):=fun z=>absurd (a2.mpr z) (Nat.lt_irrefl _)
 have:c=d:=by omega
 subst this
 omega
theorem ZiU {rs:Rs} {k b:Nat} (e:bk rs k=some b):1<=b/\b<=(Zis rs).length:=by
 unfold bk at e
 split at e
 ·rename_i c h
  cases e
  have h1:=Zl2 rs c
  have h2:=Zbh h
  omega
 ·cases e
def rd (rs:Rs):Nat->Option Nat
 |0=>some 0
 |k+1=>(rd rs k).bind (bk rs)
theorem Zcx {rs:Rs}:∀{i j r:Nat},rd rs i=some r->rd rs j=some r->i=j
 |0,0,_,_,_=>rfl
 |0,j+1,r,h,h'=>by
  cases h
  obtain ⟨x,_,e⟩:=Option.bind_eq_some_iff.mp h'
  have:=ZiU e
  omega
 |i+1,0,r,h,h'=>by
  cases h'
  obtain ⟨x,_,e⟩:=Option.bind_eq_some_iff.mp h
  have:=ZiU e
  omega
 |i+1,j+1,r,h,h'=>by
  obtain ⟨x,hx,e⟩:=Option.bind_eq_some_iff.mp h
  obtain ⟨y,hy,e'⟩:=Option.bind_eq_some_iff.mp h'
  have:=Zst e e'
  subst this
  rw [Zcx hx hy]
theorem Zca {rs:Rs}:∀{i j r:Nat},rd rs i=some r->j<=i->∃q,rd rs j=some q
 |i,j,r,h,hj=>by
  by_cases e:j=i
  ·subst e;exact ⟨r,h⟩
  ·cases i with
   |zero=>exact absurd (by omega) e
   |succ i=>
    obtain ⟨x,hx,_⟩:=Option.bind_eq_some_iff.mp h
    exact Zca hx (by omega)
theorem Zr8 {rs:Rs}:∀{i r:Nat},rd rs i=some r->r<=(Zis rs).length
 |0,r,h=>by cases h;omega
 |i+1,r,h=>by
  obtain ⟨x,_,e⟩:=Option.bind_eq_some_iff.mp h
  exact (ZiU e).2
def Zq1 (rs:Rs):Prop:=∃r,rd rs ((Zis rs).length)=some r
def Zde (rs:Rs):Nat->List Nat
 |0=>[]
 |k+1=>match (rd rs k).bind (fun r=>(rs[r]?).bind id) with
  |some c=>c::Zde rs k
  |none=>Zde rs k
theorem ZfY {rs:Rs} {k r c:Nat} (h:rd rs k=some r) (hc:rs[r]?=some (some c)):Zde rs (k+1)=c::Zde rs k:=by
 show (match (rd rs k).bind (fun r=>(rs[r]?).bind id) with|some c=>c::Zde rs k|none=>Zde rs k)=_
 rw [h]
 simp [hc]
theorem ZkD {rs:Rs} {r b:Nat} (h:bk rs r=some b):∃c,rs[r]?=some (some c):=by
 unfold bk at h
 split at h
 ·rename_i c e;exact ⟨c,e⟩
 ·cases h
theorem Zlt {rs:Rs} {k b:Nat} (h:rd rs (k+1)=some b):∃r c,rd rs k=some r/\rs[r]?=some (some c):=by
 obtain ⟨r,hr,e⟩:=Option.bind_eq_some_iff.mp h
 obtain ⟨c,hc⟩:=ZkD e
 exact ⟨r,c,hr,hc⟩
theorem ZbB {rs:Rs}:∀{k b:Nat},rd rs k=some b->(Zde rs k).length=k
 |0,_,_=>rfl
 |k+1,b,h=>by
  obtain ⟨r,c,hr,hc⟩:=Zlt h
  rw [ZfY hr hc,length_cons,ZbB hr]
def low (l t:List Nat):Nat:=(List.range (l.length+1)).countP (fun i=>decide (l.drop i<t))
def ZrN (l t:List Nat) (i:Nat):Bool:=t.isPrefixOf (l.drop i)
def ZdX (l t:List Nat):Nat:=(List.range (l.length+1)).countP (fun i=>ZrN l t i)
def ZBv (l t:List Nat) (i:Nat):Bool:=decide (l.drop i<t) || ZrN l t i
def ZBx (l t:List Nat):Nat:=low l t+ZdX l t
end LO
namespace L2
open PySem PySem.Spec PyProof.Rows
def cxL (X:Cx) (A:Around) (env:Env) (N:List Str) (s:Shared) (H:Hp):Cx:=
 {X with A:=A.deeper env,N:=N,s₀:=s,H₀:=H,env:=env,outer:=X.stack,stack:=env::X.stack,ex:=[],fn:=fun _=>false,pn:=[],xe:=fun _ _=>False}
def Zfy (v:V) (cp:List (Str×Nat)) (σ:St):St:=some v::cp.map fun p=>gS σ p.2
section
variable {X:Cx} {Za:List (Addr×Obj)} {σ:St} {H:Hp} {s:Shared} {scope:Scope} {cl:List (Str×Addr)} {cp:List (Str×Nat)} {A:Around} {env:Env} {x:Str} {v:V} {u:Value} {h1:Heap}
theorem ZkY {tk:Nat} (I:Inv X Za σ H s) (hA:A.frames=some X.stack) (hh:A.handled=none) (hcl:Ja scope.names X.env.cells []=some cl) (hk:scope.kind=.function) (hnc:∀y∈scope.names,y.2≠ .cell) (hcp:Zam X scope cp)
 (hx:scope.names.lookup x=some .local) (hnx:x∉cp.map (·.1)) (r:Z2 v u) (e1:env.scope=scope) (e2:env.locals=s.heap.objs.size) (e3:env.globals=mainGlobals) (e4:env.cells=cl) (e5:env.frame=some s.heap.objs.size) (e6:env.builtins=builtinsNs)
 (hns:h1.Ns s.heap.objs.size (fun y=>[(x,u)].reverse.lookup y)) (old:∀b o,s.heap.get? b=some o->h1.get? b=some o):
 Inv (cxL X A env (x::cp.map (·.1)) s H) [] (Zfy v cp σ) H {s with heap:=h1,toks:=tk}:=by
 have c1:=(qG scope.names [] hcl (fun x c h=>by simp at h)).1
 have c2:=(qG scope.names [] hcl (fun x c h=>by simp at h)).2
 obtain ⟨m,hm,hl⟩:=id I.loc
 have kOf:∀y,env.kindOf y=scope.names.lookup y:=fun y=>by unfold Env.kindOf;rw [e1]
 refine ⟨⟨I.ok.mod,?_,e3,e6,?_,?_,?_,fun y c z=>absurd z (by simp [cxL]),fun _=>hh,?_,.inr ⟨rfl,?_⟩,fun b z=>absurd (show b∈([]:List Addr) from z) (by simp),I.bs,Nat.le_trans I.ok.bsz I.sz,fun b o _ z=>absurd (show b∈([]:List Addr) from z) (by simp),fun b z=>absurd (show b∈([]:List Addr) from z) (by simp),I.stack,I.stkFree⟩,
  rfl,I.bare,Un.kept old,⟨fun y=>[(x,u)].reverse.lookup y,?_,fun i y w' q1 q2 q3=>?_⟩,fun y c q=>?_,?_,fun y c q=>?_,fun p hp=>absurd (show p∈([]:List (Addr×Obj)) from hp) (by simp),I.hok.kept old,?_⟩
 ·show env.scope.kind=.function
  rw [e1];exact hk
 ·show s.heap.objs.size<=env.locals
  rw [e2];exact Nat.le_refl _
 ·intro y z c h1 h2
  have h1:env.cells.lookup y=some c:=h1
  have h2:env.cells.lookup z=some c:=h2
  rw [e4] at h1 h2
  exact I.ok.inj y z c (c1 y c h1) (c1 z c h2)
 ·intro y hy
  show ∃c,env.cells.lookup y=some c
  rw [e4]
  have hy:env.kindOf y=some .cell\/env.kindOf y=some .free:=hy
  rw [kOf] at hy
  rcases hy with z|z
  ·exact absurd rfl (hnc _ (PySem.mem_of_lookup z))
  ·exact c2 y (.inr z)
 ·exact Around.frames_deeper hA
 ·show env.frame=some env.locals
  rw [e5,e2]
 ·show h1.Ns env.locals _
  rw [e2];exact hns
 ·have q1:(x::cp.map (·.1))[i]?=some y:=q1
  unfold Zfy at q2
  cases i with
  |zero=>
   cases q1
   cases (show some v=some w' from by simpa using q2)
   exact ⟨u,r,.inl ⟨by show env.kindOf x=_;rw [kOf];exact hx,by simp⟩⟩
  |succ i=>
   have q1:(cp.map (·.1))[i]?=some y:=by simpa using q1
   have q2:(cp.map fun p=>gS σ p.2)[i]?=some (some w'):=by simpa using q2
   rw [List.getElem?_map] at q1 q2
   cases q:cp[i]? with
   |none=>rw [q] at q1;cases q1
   |some p=>
    rw [q] at q1 q2
    obtain ⟨y',j⟩:=p
    cases Option.some.inj q1
    obtain ⟨g1,g2,g3⟩:=hcp.get q
    have e4':gS σ j=some w':=Option.some.inj q2
    obtain ⟨u',r',lk⟩:=hl j y' w' g1 (Zfi e4') (.inr (.inl g2))
    refine ⟨u',r',.inr ⟨.inr (by show env.kindOf y'=_;rw [kOf];exact g3),?_⟩⟩
    rcases lk with ⟨z,_⟩|⟨_,c,z,zc⟩
    ·have z':X.env.scope.names.lookup y'=some .local:=z
     rw [g2] at z'
     cases z'
    ·obtain ⟨d,hd⟩:=c2 y' (.inr g3)
     have hd':=c1 y' d hd
     rw [z] at hd'
     cases Option.some.inj hd'
     obtain ⟨o,ho,hdt⟩:=zc
     exact ⟨c,by show env.cells.lookup y'=_;rw [e4];exact hd,o,old _ _ ho,hdt⟩
 ·have q:env.cells.lookup y=some c:=q
  rw [e4] at q
  obtain ⟨w',o,ho,hd⟩:=I.cell y c (c1 y c q)
  exact ⟨w',o,old _ _ ho,hd⟩
 ·show H env.locals=none
  rw [e2];exact I.hok.fresh (Nat.le_refl _)
 ·have q:env.cells.lookup y=some c:=q
  rw [e4] at q
  exact I.freeC y c (c1 y c q)
 ·show (Zfy v cp σ).length=(x::cp.map (·.1)).length
  unfold Zfy
  simp
theorem Zma {name qual:Str} {params:Arguments} {body:Expr} {pm ctv:Value} {c' f:Addr} {te:TE} {Q:VK} (I:Inv X Za σ H s) (hA:A.frames=some X.stack) (hh:A.handled=none) (hd:A.depth<recursionLimit)
 (hcl:Ja scope.names X.env.cells []=some cl) (hk:scope.kind=.function) (hnc:∀y∈scope.names,y.2≠ .cell) (hcp:Zam X scope cp) (hx:scope.names.lookup x=some .local) (hnx:x∉cp.map (·.1)) (hco:scope.isCoroutine=false) (hgen:scope.isGenerator=false)
 (ho:s.heap.get? f=some (kla_obj name qual params body scope cl pm c' ctv)) (hcd:s.heap.CodeRec (.ref c') qual)
 (hb:∀u:Value,bindArgs (kla_fn name qual params body scope cl pm (.ref c') ctv) ⟨[u],[]⟩=pure [(x,u)]) (r:Z2 v u)
 (he:∀A L f c' s H,PE (cxL X A (newEnv scope L mainGlobals cl (qual++".<locals>.") (some f) (.ref c') none builtinsNs) (x::cp.map (·.1)) s H) body te) (h:te (Zfy v cp σ) H Q):
 wpAny (model X.prog X.w) A (call (.ref f) [u]) (EP X Za σ Q) (fun _ _=>False) s:=by
 refine wpAny_call (PySem.W.kla_callFunE hd ho rfl hco hgen rfl hcd ?_)
 rw [hb u]
 refine wpAny_pure (wpAny_newFunctionEnv hnc (fun y hy=>?_) (fun h1 hns hsb=>?_) hk)
 ·cases mem_singleton.mp hy
  exact hx
 ·have old:∀b o,s.heap.get? b=some o->h1.get? b=some o:=fun b o e=>(hsb.2 b (Nat.ne_of_lt (Heap.lt_size e))).trans (Heap.get?_push_of_some _ e)
  refine ⟨I.nolimit.keeps old,PySem.W.kla_codeExpr ?_⟩
  generalize hE:newEnv scope s.heap.objs.size mainGlobals cl (qual++".<locals>.") (some f) (.ref c') none builtinsNs=env
  have e1:env.scope=scope:=by rw [<-hE];rfl
  have e4:env.cells=cl:=by rw [<-hE];rfl
  have J:Inv (cxL X A env (x::cp.map (·.1)) s H) [] (Zfy v cp σ) H {s with heap:=h1,toks:=s.toks+[(x,u)].length}:=
   ZkY I hA hh hcl hk hnc hcp hx hnx r e1 (by rw [<-hE];rfl) (by rw [<-hE];rfl) e4 (by rw [<-hE];rfl) (by rw [<-hE];rfl) hns old
  refine wpAny_mono ((hE▸he A s.heap.objs.size f c' s H:PE (cxL X A env (x::cp.map (·.1)) s H) body te) [] _ _ H Q J h) (fun w' s' ⟨y,H',J',ry,q⟩=>?_) fun _ _ z=>False.elim z
  exact I.after ⟨y,H',J'.os,J'.bare,J'.base,J'.hok,ry,q⟩
end
def Zhm (c:Addr) (q:Str):HO:=.ext fun h=>h.CodeRec (.ref c) q
theorem Zmh {P:Program} {w:World} {H:Hp} {h:Heap} {c:Addr} {q:Str} (x:h.CodeRec (.ref c) q):zD P w H h c (Zhm c q):=by
 obtain ⟨c2,o,vs,t,e,ho,hd,hv⟩:=id x
 cases e
 refine ⟨x,⟨o,ho⟩,fun h1 h2 z k=>?_⟩
 obtain ⟨c3,o',vs',t',e,a,b,d⟩:=z
 cases e
 exact ⟨_,o',vs',t',rfl,k o' a,b,d⟩
def Bk (P:Addr) (pos:Pos) (q:Str) (H:Hp):Prop:=H P=some (.tbl #[])\/∃c',H P=some (.tbl #[rawInt pos.line,rawInt pos.col,.ref c'])/\H c'=some (Zhm c' q)
def ZS (H H':Hp):Prop:=∀b o,H b=some o->H' b≠none/\((∀ps,o≠ .tbl ps)->H' b=some o)
theorem ZS.at {H H':Hp} (a:ZS H H') {b:Addr} {o:HO} (h:H b=some o) (n:∀ps,o≠ .tbl ps):H' b=some o:=(a b o h).2 n
theorem ZS.free {H H':Hp} (a:ZS H H') {b:Addr} (h:H' b=none):H b=none:=by
 cases q:H b with
 |none=>rfl
 |some o=>exact absurd h (a b o q).1
theorem ZS.refl (H:Hp):ZS H H:=fun _ _ h=>⟨by rw [h];simp,fun _=>h⟩
theorem ZS.trans {H H1 H2:Hp} (a:ZS H H1) (b:ZS H1 H2):ZS H H2:=fun c o h=>⟨fun z=>(a c o h).1 (b.free z),fun n=>b.at ((a c o h).2 n) n⟩
theorem Zw.toN {H H':Hp} (a:Zw H H'):ZS H H':=fun c o h=>⟨by rw [a c o h];simp,fun _=>a c o h⟩
theorem ZS.upd {H H':Hp} {a:Addr} {o:HO} (e:ZS H H') (n:H' a=none):ZS H (L2.upd H' a o):=fun b u q=>by
 have hb:b≠a:=by
  rintro rfl
  exact (e b u q).1 n
 rw [Zn hb]
 exact e b u q
theorem ZS.seq {K:PySem.W.Frag} {H H':Hp} {a:Addr} {xs:List V} (e:ZS H H') (h:SqL K H a xs):SqL K H' a xs:=by
 rcases h with (h|⟨o,h⟩)|h
 ·exact .inl (.inl (e.at h (by nofun)))
 ·exact .inl (.inr ⟨o,e.at h (by nofun)⟩)
 ·exact .inr h
theorem Bk.put {P:Addr} {pos:Pos} {q:Str} {H:Hp} {a:Addr} {o:HO} (h:Bk P pos q H) (n:H a=none):Bk P pos q (L2.upd H a o):=by
 rcases h with h|⟨c',h,g⟩
 ·exact .inl (by rw [Zn (Zq h n)];exact h)
 ·exact .inr ⟨c',by rw [Zn (Zq h n)];exact h,by rw [Zn (Zq g n)];exact g⟩
def Yq (P:Addr) (H H':Hp):Prop:=∀b o,b≠P->H b=some o->H' b=some o
theorem Yq.refl (P:Addr) (H:Hp):Yq P H H:=fun _ _ _ h=>h
theorem Yq.trans {P:Addr} {H H1 H2:Hp} (a:Yq P H H1) (b:Yq P H1 H2):Yq P H H2:=fun c o n h=>b c o n (a c o n h)
theorem Zw.toE {P:Addr} {H H':Hp} (a:Zw H H'):Yq P H H':=fun c o _ h=>a c o h
theorem Yq.upd {P:Addr} {H H':Hp} {a:Addr} {o:HO} (e:Yq P H H') (n:H' a=none):Yq P H (L2.upd H' a o):=fun b u nb q=>by
 have q':=e b u nb q
 rw [Zn (Zq q' n)]
 exact q'
theorem Bk.isTbl {P:Addr} {pos:Pos} {q:Str} {H:Hp} (h:Bk P pos q H):∃ps,H P=some (.tbl ps):=by
 rcases h with h|⟨c',h,_⟩
 ·exact ⟨_,h⟩
 ·exact ⟨_,h⟩
theorem Bk.keep {P P2:Addr} {pos pos2:Pos} {q q2:Str} {H H':Hp} (b2:Bk P2 pos2 q2 H) (b1:Bk P pos q H) (ne:P2≠P) (se:Yq P H H'):Bk P2 pos2 q2 H':=by
 obtain ⟨ps,hP⟩:=b1.isTbl
 rcases b2 with h|⟨c',h,g⟩
 ·exact .inl (se _ _ ne h)
 ·exact .inr ⟨c',se _ _ ne h,se _ _ (Zcm g hP (by intro z;cases z)) g⟩
structure Zji (X:Cx) (c P:Addr):Prop where
 code:X.env.code=.ref c
 hd:CodeHd X.base c P
 bm:∃bm ob,X.mg "__builtins__"=some (.ref bm)/\bm≠builtinsNs/\X.base.get? bm=some ob/\ob.cls=.type "module"/\ob.dict=some builtinsNs/\ob.data=.plain
section
variable {X:Cx} {Za:List (Addr×Obj)} {σ:St} {H:Hp} {s:Shared} {scope:Scope} {cl:List (Str×Addr)} {A:Around} {c P:Addr} {params:Arguments} {body:Expr} {pos:Pos} {q:Str} {M:Model} {E:Value->Shared->Prop} {Q:Value->Shared->Prop}
theorem ZlK (I:Inv X Za σ H s) (L:Zji X c P) {o:HO} (hP:H P=some o):s.heap.BuiltinsAt X.mg P/\mainGlobals≠P:=by
 obtain ⟨bm,ob,b1,b2,b3,b4,b5,b6⟩:=L.bm
 have hb:=I.bs bm ob b3
 obtain ⟨og,es,ep,g1,g2,_⟩:=id I.mod.glob
 have hg:=I.bs mainGlobals og g1
 refine ⟨⟨bm,ob,b1,b2,?_,?_,hb.1,b4,b5,b6⟩,?_⟩
 ·rintro rfl
  rw [g1] at b3
  cases b3
  rw [g2] at b6
  cases b6
 ·rintro rfl
  rw [hb.2] at hP
  cases hP
 ·intro z
  rw [<-z,hg.2] at hP
  cases hP
theorem ZlS (I:Inv X Za σ H s) (L:Zji X c P) (hcl:Ja scope.names X.env.cells []=some cl) (hdef:defaultsOf params X.env=([],[])) (bk:Bk P pos q H) (hq:X.env.qual++"<lambda>"=q)
 (hQ:∀f c' pm ctv H' s',Inv X (Za++[(f,kla_obj "<lambda>" q params body scope cl pm c' ctv)]) σ H' s'->H' c'=some (Zhm c' q)->Bk P pos q H'->ZS H H'->Yq P H H'->Q (.ref f) s'):
 wpAny M A (eval (.Lambda params body scope pos) X.env) Q E s:=by
 refine PySem.W.kla_eval hdef ?_
 rw [hq]
 have hg:s.heap.Ns mainGlobals X.mg:=I.mod.glob.keeps I.bk
 have C:CodeHd s.heap c P:=L.hd.keeps I.bk
 rcases bk with hP|⟨c',hP,hc'⟩
 ·have hPo:s.heap.get? P=some (tabObj #[]):=I.hok P _ hP
  obtain ⟨hb,hgP⟩:=ZlK I L hP
  refine PySem.W.kla_makeFunction (mg:=X.mg) (Zae hcl) I.ok.glob hg L.code C hPo trivial rfl hgP hb fun c' ctv h' tk hx hge hlt hrec htb=>?_
  have hnc:H c'=none:=I.hok.fresh hge
  have hPc:P≠c':=Zq hP hnc
  have nP:∀b,H b=none->b≠P:=fun b n z=>by rw [z,hP] at n;cases n
  have old:∀b o,b≠P->s.heap.get? b=some o->(h'.push (kla_obj "<lambda>" q params body scope cl ((X.mg "__name__").getD .none) c' ctv)).get? b=some o:=fun b o hb e=>Heap.get?_push_of_some _ (hx b o hb e)
  have htb':(h'.push (kla_obj "<lambda>" q params body scope cl ((X.mg "__name__").getD .none) c' ctv)).get? P=some (tabObj #[rawInt pos.line,rawInt pos.col,.ref c']):=Heap.get?_push_of_some _ (by simpa using htb)
  have I1:Inv X Za σ (upd (upd H P (.tbl #[rawInt pos.line,rawInt pos.col,.ref c'])) c' (Zhm c' q)) {s with heap:=h'.push (kla_obj "<lambda>" q params body scope cl ((X.mg "__name__").getD .none) c' ctv),toks:=tk}:=by
   have other:∀b,b≠P->b≠c'->upd (upd H P (.tbl #[rawInt pos.line,rawInt pos.col,.ref c'])) c' (Zhm c' q) b=H b:=fun b h1 h2=>by rw [Zn h2,Zn h1]
   refine I.un ⟨fun b o e n _ _=>old b o (nP b n) e,fun b o e n _ _=>⟨o.slots,old b o (nP b n) e⟩,fun b o e n _=>?_,fun b o e _=>?_,fun b xs e=>?_,fun b o u e=>?_,fun b ps e=>?_⟩ fun b o e=>?_
   ·rw [other b (nP b n) (Nat.ne_of_lt (Nat.lt_of_lt_of_le (Heap.lt_size e) hge))]
    exact n
   ·by_cases hb:b=P
    ·subst hb;exact ⟨_,htb'⟩
    ·exact ⟨o,old b o hb e⟩
   ·rw [other b (Zcm e hP (by intro z;cases z)) (Zq e hnc)]
    exact e
   ·rw [other b (Zcm e hP (by intro z;cases z)) (Zq e hnc)]
    exact e
   ·by_cases hb:b=P
    ·subst hb
     rw [hP] at e
     cases e
     exact ⟨#[rawInt pos.line,rawInt pos.col,.ref c'],by rw [Zn hPc,Zj];simp⟩
    ·exact ⟨#[],by rw [other b hb (Zq e hnc),e];simp⟩
   ·by_cases hb:b=c'
    ·subst hb
     rw [Zj] at e
     cases e
     exact Zmh (hrec.push _)
    ·rw [Zn hb] at e
     by_cases hb2:b=P
     ·subst hb2
      rw [Zj] at e
      cases e
      exact htb'
     ·rw [Zn hb2] at e
      refine (I.hok b o e).stay (fun d u hd z=>old d u ?_ z) (fun d z=>?_) fun d xs z=>?_
      ·rcases hd with rfl|hd
       ·exact hb2
       ·exact Zcm hd hP (by intro z;cases z)
      ·rw [other d (Zcm z hP (by intro z;cases z)) (Zq z hnc)]
       exact z
      ·rw [other d (Zcm z hP (by intro z;cases z)) (Zq z hnc)]
       exact z
  have hsz:s.heap.objs.size<=h'.objs.size:=Nat.le_of_lt (Nat.lt_of_le_of_lt hge hlt)
  refine hQ h'.objs.size c' ((X.mg "__name__").getD .none) ctv _ _ (I1.pins_of fun p hp=>?_) Zj (.inr ⟨c',by rw [Zn hPc,Zj],Zj⟩) (fun b o e=>?_) fun b o hb e=>by rw [Zn (Zq e hnc),Zn hb];exact e
  ·rcases mem_append.mp hp with hp|hp
   ·exact I1.pin p (mem_append_right _ hp)
   ·cases mem_singleton.mp hp
    refine ⟨Heap.get?_push_size _ rfl,?_,Nat.ne_of_gt (Nat.lt_of_lt_of_le I.lt hsz),I.nofs hsz,fun v z=>by cases z⟩
    show upd (upd H P _) c' _ h'.objs.size=none
    rw [Zn (Nat.ne_of_gt hlt),Zn fun z=>?_]
    ·exact I.hok.fresh hsz
    ·have:=Heap.lt_size hPo
     rw [<-z] at this
     exact absurd (Nat.lt_of_lt_of_le this hsz) (Nat.lt_irrefl _)
  ·rw [Zn (Zq e hnc)]
   by_cases hb:b=P
   ·subst hb
    rw [hP] at e
    cases e
    rw [Zj]
    exact ⟨by simp,fun nt=>absurd rfl (nt _)⟩
   ·rw [Zn hb,e]
    exact ⟨by simp,fun _=>rfl⟩
 ·have hPo:s.heap.get? P=some (tabObj #[rawInt pos.line,rawInt pos.col,.ref c']):=I.hok P _ hP
  obtain ⟨hb,hgP⟩:=ZlK I L hP
  refine PySem.W.kla_makeFunctionHit (cv:=.ref c') (mg:=X.mg) (Zae hcl) I.ok.glob hg L.code C hPo trivial ?_ hb fun ctv h' tk hk hsz=>?_
  ·show (if _ then _ else _)=_
   rw [if_pos (by simp)]
  ·have I1:Inv X Za σ H {s with heap:=h'.push (kla_obj "<lambda>" q params body scope cl ((X.mg "__name__").getD .none) c' ctv),toks:=tk}:=I.kept fun b o e=>Heap.get?_push_of_some _ (hk b o e)
   refine hQ h'.objs.size c' ((X.mg "__name__").getD .none) ctv H _ (I1.pins_of fun p hp=>?_) hc' (.inr ⟨c',hP,hc'⟩) (ZS.refl _) (Yq.refl _ _)
   rcases mem_append.mp hp with hp|hp
   ·exact I1.pin p (mem_append_right _ hp)
   ·cases mem_singleton.mp hp
    exact ⟨Heap.get?_push_size _ rfl,I.hok.fresh hsz,Nat.ne_of_gt (Nat.lt_of_lt_of_le I.lt hsz),I.nofs hsz,fun v z=>by cases z⟩
end
section
variable {X:Cx} {Za:List (Addr×Obj)} {σ:St} {H:Hp} {s:Shared}
structure Own (X:Cx) (Za:List (Addr×Obj)) (H:Hp) (D:Addr):Prop where
 old:X.s₀.heap.objs.size<=D
 free:H D=none
 nl:D≠X.env.locals
 np:∀p∈X.pn++Za,p.1≠D
theorem Own.fresh (I:Inv X Za σ H s) {D:Addr} (h:s.heap.objs.size<=D):Own X Za H D:=
 ⟨Nat.le_trans I.sz h,I.hok.fresh h,Nat.ne_of_gt (Nat.lt_of_lt_of_le I.lt h),fun p hp z=>absurd (Nat.lt_of_lt_of_le (Heap.lt_size (I.pin p hp).1) h) (by rw [z];exact Nat.lt_irrefl _)⟩
theorem Inv.cellne (I:Inv X Za σ H s) {D:Addr} {o:Obj} (ho:s.heap.get? D=some o) (hd:∀v,o.data≠ .cell v):∀x c,X.env.cells.lookup x=some c->c≠D:=fun x c e z=>by
 obtain ⟨v,o',ho',hd'⟩:=I.cell x c e
 rw [z,ho] at ho'
 cases ho'
 exact hd v hd'
theorem Inv.alter (I:Inv X Za σ H s) {D:Addr} {o:Obj} {h':Heap} (W:Own X Za H D) (ho:s.heap.get? D=some o) (hd:∀v,o.data≠ .cell v) (k:∀b u,b≠D->s.heap.get? b=some u->h'.get? b=some u):Inv X Za σ H {s with heap:=h'}:=
 I.turned (t':=s.toks) k W.free W.nl (.inr W.old) (I.cellne ho hd) W.np
theorem Inv.ownfs (I:Inv X Za σ H s) {D:Addr} (W:Own X Za H D):D∉X.fs:=fun hb=>by
 obtain ⟨_,o,ho,_⟩:=I.ok.funs.mem hb
 exact absurd (Nat.lt_of_lt_of_le (Heap.lt_size ho) W.old) (Nat.lt_irrefl _)
theorem Inv.pin1 (I:Inv X Za σ H s) {D:Addr} {o:Obj} (W:Own X Za H D) (ho:s.heap.get? D=some o) (hd:∀v,o.data≠ .cell v):Inv X (Za++[(D,o)]) σ H s:=I.pins_of fun p hp=>by
 rcases mem_append.mp hp with q|q
 ·exact I.pin p (mem_append_right _ q)
 ·cases mem_singleton.mp q
  exact ⟨ho,W.free,W.nl,I.ownfs W,hd⟩
theorem Inv.unpin {ps:List (Addr×Obj)} (I:Inv X (Za++ps) σ H s):Inv X Za σ H s:=I.pins_of fun p hp=>I.pin p (mem_append_right _ (mem_append_left _ hp))
theorem Inv.track (I:Inv X Za σ H s) {D:Addr} {o:HO} (W:Own X Za H D) (hc:∀x c,X.env.cells.lookup x=some c->c≠D) (new:zD X.prog X.w (upd H D o) s.heap D o):Inv X Za σ (upd H D o) s:=by
 have ne:∀b u,H b=some u->b≠D:=fun b u e=>Zq e W.free
 refine ⟨I.ok,I.os,I.bare,⟨I.base.keep,I.base.slot,fun b u e n hx=>?_,I.base.there,fun b xs e=>?_,fun b u v e=>?_,fun b ps e=>?_⟩,I.loc,I.cell,?_,fun x c e=>?_,fun p hp=>?_,fun b u e=>?_,I.len⟩
 ·rw [Zn (Nat.ne_of_lt (Nat.lt_of_lt_of_le (Heap.lt_size e) W.old))]
  exact I.base.free b u e n hx
 ·have:=I.base.tups b xs e
  rw [Zn (ne b _ this)]
  exact this
 ·have:=I.base.frzs b u v e
  rw [Zn (ne b _ this)]
  exact this
 ·obtain ⟨m,z⟩:=I.base.tbls b ps e
  exact ⟨m,by rw [Zn (ne b _ z)];exact z⟩
 ·rw [Zn (Ne.symm W.nl)]
  exact I.free
 ·rw [Zn (hc x c e)]
  exact I.freeC x c e
 ·obtain ⟨a1,a2,a3⟩:=I.pin p hp
  exact ⟨a1,by rw [Zn (W.np p hp)];exact a2,a3⟩
 ·by_cases hb:b=D
  ·subst hb
   rw [Zj] at e
   cases e
   exact new
  ·rw [Zn hb] at e
   refine (I.hok b u e).stay (fun _ _ _ z=>z) (fun d z=>?_) fun d xs z=>?_
   ·rw [Zn (ne d _ z)];exact z
   ·rw [Zn (ne d _ z)];exact z
theorem ZpF {A:Around} {E:Value->Shared->Prop} {P:PySem.Fin->Shared->Prop} {f:Value} {a kS:Addr} {e1:Nat} {vs:List Value} {xs kV:List V} (rv:ZD xs vs) (hl:kV.length=vs.length) (hz:vs.length<=100000) (I:Inv X Za σ H s) (Wa:Own X Za H a)
 (ha:s.heap.get? a=some (seqObj "list" #[] e1)) (Wk:Own X (Za++[(a,seqObj "list" #[] e1)]) H kS) (hk:s.heap.get? kS=some (seqObj "list" #[] 0))
 (hcall:∀ps s' (i:Nat) (x:V) (k:V) (u:Value),Inv X (Za++ps) σ H s'->xs[i]?=some x->kV[i]?=some k->Z2 x u->wpAny (model X.prog X.w) A (call f [u]) (EP X (Za++ps) σ fun y H'=>H'=H/\y=k) (fun _ _=>False) s')
 (h:∀s' ks e,Inv X (Za++[(a,seqObj "list" #[] e1)]) σ H s'->s'.heap.get? kS=some (seqObj "list" (List.toArray ks) e)->ZD kV ks->wpAny (model X.prog X.w) A (ksk_end a false vs.toArray e1 (.ref kS) (List.toArray ks)) P E s'):
 wpAny (model X.prog X.w) A (ksk_rest a f false vs.toArray e1 (.ref kS)) P E s:=by
 unfold ksk_rest
 refine wpAny_bind (wpAny_rule ?_)
 first
  |rw [List.forIn_toArray]
  |rw [<-Array.forIn_toList]
 have hsl:sizeLine=16777216:=sizeLine_eq
 refine wpAny_bind (ksk_fold (fun i s'=>∃ks e,Inv X (Za++[(a,seqObj "list" #[] e1)]) σ H s'/\s'.heap.get? kS=some (seqObj "list" (List.toArray ks) e)/\ZD (kV.take i) ks) vs 0 s ⟨[],0,I.pin1 Wa ha (fun v z=>by cases z),hk,.nil⟩ (fun j u s' hu hI=>?_) fun s' hI=>?_)
 ·obtain ⟨ks,e,I1,hk1,rk⟩:=hI
  rw [Nat.zero_add] at rk ⊢
  have hj:j<vs.length:=(List.getElem?_eq_some_iff.mp hu).1
  obtain ⟨x,hx,rx⟩:∃x,xs[j]?=some x/\Z2 x u:=by
   have hxl:j<xs.length:=by rw [rv.length];exact hj
   have e1:xs[j]?=some xs[j]:=List.getElem?_eq_getElem hxl
   obtain ⟨u',hu',r'⟩:=rv.get e1
   rw [hu] at hu'
   cases hu'
   exact ⟨_,e1,r'⟩
  have hkj:kV[j]?=some (kV[j]'(by omega)):=List.getElem?_eq_getElem (by omega)
  have I2:Inv X (Za++([(a,seqObj "list" #[] e1)]++[(kS,seqObj "list" (List.toArray ks) e)])) σ H s':=by
   rw [<-append_assoc]
   exact I1.pin1 Wk hk1 (fun v z=>by cases z)
  refine wpAny_bind (wpAny_attempt (wpAny_mono (hcall _ s' j x _ u I2 hx hkj rx) (fun y s2 ⟨yv,H2,I3,ry,eH,ey⟩=>?_) fun _ _ z=>z.elim))
  subst eH ey
  have hk3:=(I3.pin (kS,seqObj "list" (List.toArray ks) e) (mem_append_right _ (mem_append_right _ (mem_append_right _ (mem_singleton.mpr rfl))))).1
  have I4:Inv X (Za++[(a,seqObj "list" #[] e1)]) σ H2 s2:=by
   rw [<-append_assoc] at I3
   exact I3.unpin
  have lk:=rk.length
  rw [length_take] at lk
  have hsb:=Heap.SameBut.update s2.heap kS (Obj.mapSeq (·.push y))
  obtain ⟨c2,hg⟩:∃c2,(s2.heap.update kS (Obj.mapSeq (·.push y))).get? kS=some (seqObj "list" (List.toArray (ks++[y])) c2):=by
   have:(List.toArray ks).push y=List.toArray (ks++[y]):=by simp
   rw [<-this]
   exact ⟨_,get?_update_seq hk3 (·.push y)⟩
  dsimp only
  refine wpAny_bind (listUpdate_at hk3 rfl ?_ (by rw [size_toArray];omega) (by rw [Array.size_push,size_toArray];omega))
  refine wpAny_pure ⟨rfl,ks++[y],c2,I4.alter Wk hk3 (fun v z=>by cases z) (fun b u hb z=>(hsb.2 b hb).trans z),hg,?_⟩
  rw [List.take_succ,hkj]
  exact rk.append (.cons ry .nil)
 ·obtain ⟨ks,e,I1,hk1,rk⟩:=hI
  rw [Nat.zero_add,<-hl,List.take_length] at rk
  refine wpAny_bind (listItems_at hk1 rfl ?_)
  exact h s' ks e I1 hk1 rk
theorem Zua {A:Around} {E:Value->Shared->Prop} {P:PySem.Fin->Shared->Prop} {a kS:Addr} {e e1:Nat} {vs ks:List Value} {xs:List V} {κ:SortKind} {O:KeyOrd} {key:Nat->O.α} (rv:ZD xs vs) (hl:ks.length=vs.length) (h64:vs.length<64)
 (I:Inv X (Za++[(a,seqObj "list" #[] e1)]) σ H s) (Wa:Own X Za H a) (Wk:Own X (Za++[(a,seqObj "list" #[] e1)]) H kS) (hk:s.heap.get? kS=some (seqObj "list" (List.toArray ks) e))
 (hkind:2<=vs.length->∀Q:SortKind->Shared->Prop,Q κ s->wpAny (model X.prog X.w) A (keyKind' (List.toArray ks)) Q E s)
 (hask:LS.ZdZ key vs.length (fun s'=>s'=s) (kas_ask X.prog X.w A κ ks))
 (h:∀(p:Array Nat) s',LS.Pm vs.length p->LS.Ust key p vs.length->Inv X Za σ (upd H a (.lst (p.toList.map fun i=>xs.getD i .non))) s'->P (.done (.ret .none)) s'):
 wpAny (model X.prog X.w) A (ksk_end a false vs.toArray e1 (.ref kS) (List.toArray ks)) P E s:=by
 have hsl:sizeLine=16777216:=sizeLine_eq
 have ha:=(I.pin (a,seqObj "list" #[] e1) (mem_append_right _ (mem_append_right _ (mem_singleton.mpr rfl)))).1
 have hka:kS≠a:=fun z=>Wk.np (a,seqObj "list" #[] e1) (mem_append_right _ (mem_append_right _ (mem_singleton.mpr rfl))) z.symm
 have lv:=rv.length
 have tail:∀(st:SortSt) (p:Array Nat),LS.Pm vs.length p->LS.Ust key p vs.length->arrOf st=p.map (kas_item (ks.toArray.zip vs.toArray))->failedOf st=none->wpAny (model X.prog X.w) A (ksk_tail a false e1 (.ref kS) st) P E s:=by
  intro st p hp hu har hf
  have hout:=kat_snds hl har
  have hps:=hp.size
  unfold ksk_tail
  dsimp only
  rw [hout]
  have hs1:=Heap.SameBut.update s.heap kS (Obj.mapSeq fun _=>(#[]:Array Value))
  have ha1:=(hs1.2 a hka.symm).trans ha
  have hs2:=Heap.SameBut.update (s.heap.update kS (Obj.mapSeq fun _=>(#[]:Array Value))) a (Obj.mapSeq fun _=>List.toArray (p.toList.map fun i=>vs.getD i Value.none))
  obtain ⟨c2,hg⟩:∃c2,((s.heap.update kS (Obj.mapSeq fun _=>(#[]:Array Value))).update a (Obj.mapSeq fun _=>List.toArray (p.toList.map fun i=>vs.getD i Value.none))).get? a=some (seqObj "list" (List.toArray (p.toList.map fun i=>vs.getD i Value.none)) c2):=⟨_,get?_update_seq ha1 (fun _=>List.toArray (p.toList.map fun i=>vs.getD i Value.none))⟩
  refine wpAny_bind (listUpdate_at hk rfl ?_ (by rw [size_toArray];omega) (Nat.zero_le _))
  refine wpAny_bind (wpAny_letGo ?_)
  refine wpAny_bind (seqEpoch_at ha1 rfl ?_)
  refine wpAny_bind (listUpdate_at ha1 rfl ?_ (Nat.zero_le _) (by show (List.toArray _).size<=_;rw [size_toArray,length_map,Array.length_toList];omega))
  rw [hf]
  simp only [bne_self_eq_false,Bool.false_eq_true,if_false]
  have I1:Inv X (Za++[(a,seqObj "list" #[] e1)]) σ H {s with heap:=s.heap.update kS (Obj.mapSeq fun _=>(#[]:Array Value))}:=I.alter Wk hk (fun v z=>by cases z) fun b u hb z=>(hs1.2 b hb).trans z
  have I2:Inv X Za σ H {s with heap:=(s.heap.update kS (Obj.mapSeq fun _=>(#[]:Array Value))).update a (Obj.mapSeq fun _=>List.toArray (p.toList.map fun i=>vs.getD i Value.none))}:=I1.unpin.alter (s:= {s with heap:=s.heap.update kS (Obj.mapSeq fun _=>(#[]:Array Value))}) Wa ha1 (fun v z=>by cases z) fun b u hb z=>(hs2.2 b hb).trans z
  refine wpAny_pure (h p _ hp hu (I2.track Wa (I2.cellne hg fun v z=>by cases z) ?_))
  refine ⟨by rw [length_map,Array.length_toList];omega,p.toList.map fun i=>vs.getD i Value.none,c2,?_,hg⟩
  have all:∀l:List Nat,(∀i∈l,i<vs.length)->ZD (l.map fun i=>xs.getD i .non) (l.map fun i=>vs.getD i Value.none):=by
   intro l
   induction l with
   |nil=>intro _;exact .nil
   |cons i r ih=>
    intro hi
    have hi0:=hi i mem_cons_self
    refine .cons ?_ (ih fun j hj=>hi j (mem_cons_of_mem _ hj))
    have hx:xs[i]?=some (xs.getD i .non):=by
     rw [List.getD_eq_getElem?_getD,List.getElem?_eq_getElem (by omega)]
     rfl
    obtain ⟨u,hu,r'⟩:=rv.get hx
    show Z2 (xs.getD i .non) (vs.getD i Value.none)
    have e:vs.getD i Value.none=u:=by rw [List.getD_eq_getElem?_getD,hu];rfl
    rw [e]
    exact r'
  exact all p.toList fun i hi=>by
   have:=hp.mem_iff.mp hi
   exact List.mem_range.mp this
 unfold ksk_end
 dsimp only
 rw [if_neg Bool.false_ne_true]
 by_cases h2:vs.toArray.size<2
 ·rw [if_pos h2,if_pos h2]
  refine wpAny_bind (wpAny_pure ?_)
  rw [StateT.run_pure]
  refine wpAny_bind (wpAny_pure ?_)
  dsimp only
  rw [if_neg Bool.false_ne_true]
  rw [size_toArray] at h2
  refine tail _ (List.toArray (List.range vs.length)) (by unfold LS.Pm;simp) ⟨fun i j hij hj=>?_,fun i j hij hj=>by omega⟩ ?_ rfl
  ·have:i=j:=by omega
   subst this
   exact KeyOrd.kle_refl _
  ·have e:=kas_range (ks.toArray.zip vs.toArray)
   rw [show (ks.toArray.zip vs.toArray).size=vs.length by simp [hl]] at e
   exact e.symm
 ·rw [if_neg h2,if_neg h2]
  rw [size_toArray] at h2
  refine wpAny_bind (hkind (by omega) _ ?_)
  rw [if_neg Bool.false_ne_true]
  refine wpAny_bind (wpAny_mono (kat_run (E:=E) (Q:=fun st' s'=>s'=s/\∃p:Array Nat,LS.Pm vs.length p/\LS.Ust key p vs.length/\arrOf st'=p.map (kas_item (ks.toArray.zip vs.toArray))/\failedOf st'=none) (G:=fun p s'=>s'=s/\LS.Pm vs.length p/\LS.Ust key p vs.length) hl (by omega) h64 (fun p st' s' _ q2 q3 q4=>⟨q4.1,p,q4.2.1,q4.2.2,q2,q3⟩) (LS.Zkf hask (by omega) rfl fun p s' q1 q2 q3=>⟨q1,q2,q3⟩)) ?_ fun _ _ z=>z)
  rintro ⟨⟨⟩,st'⟩ s' ⟨rfl,p,q1,q2,q3,q4⟩
  exact tail st' p q1 q2 q3 q4
end
def Za8 (lo hi:Int):List V:=(List.range (hi-lo).toNat).map fun i:Nat=>V.int (lo+(i:Int))
def Src (K:PySem.W.Frag) (H:Hp) (a:Addr) (xs:List V):Prop:=SqL K H a xs\/SqT K H a xs\/∃lo hi:Int,H a=some (.rng lo hi)/\xs=Za8 lo hi/\ -(2 ^ 62)<=lo/\lo<2 ^ 62/\ -(2 ^ 62)<=hi/\hi<2 ^ 62
section
variable {X:Cx} {Za:List (Addr×Obj)} {σ:St} {H:Hp} {s:Shared}
def Znl:List V->Hp->VK->Prop:=fun xs H Q=>match xs with
 |[.int j]=>∀r,H r=none->Q (.ref r) (upd H r (.rng 0 j))
 |[.int l,.int j]=>∀r,H r=none->Q (.ref r) (upd H r (.rng l j))
 |_=>False
theorem ZgR:Jc X (.type "range") Znl:=by
 intro Za s σ H xs us Q I r h
 unfold Znl at h
 split at h
 ·rename_i j
  obtain ⟨u,rfl,ru⟩:=JA r
  obtain ⟨t,rfl⟩:=ru
  have hn:=I.hok.fresh (Nat.le_refl s.heap.objs.size)
  exact call_range_1 ⟨.ref s.heap.objs.size,_,I.laid (o:=.rng 0 j) (t':=s.toks+1+1) (fun b u e=>Heap.get?_push_of_some _ e) (Nat.le_refl _) ⟨_,_,_,Heap.get?_push_size _ rfl⟩,rfl,h _ hn⟩
 ·rename_i l j
  obtain ⟨u,w',rfl,ru,rw'⟩:=ZdL r
  obtain ⟨t,rfl⟩:=ru
  obtain ⟨t',rfl⟩:=rw'
  have hn:=I.hok.fresh (Nat.le_refl s.heap.objs.size)
  exact call_range_2 ⟨.ref s.heap.objs.size,_,I.laid (o:=.rng l j) (t':=s.toks+1) (fun b u e=>Heap.get?_push_of_some _ e) (Nat.le_refl _) ⟨_,_,_,Heap.get?_push_size _ rfl⟩,rfl,h _ hn⟩
 ·exact h.elim
theorem Zhj {lo hi:Int} {acc:Array Value} {n:Nat} (hn:n=(hi-lo).toNat) (h:ItemsOf (fun i v=>∃t,v=.int (lo+i * 1) t) acc n):ZD (Za8 lo hi) acc.toList:=by
 obtain ⟨h1,h2⟩:=h
 have key:∀(l:List Value) (k:Nat),(∀j v,l[j]?=some v->∃t,v=Value.int (lo+((k+j:Nat):Int)) t)->ZD ((List.range l.length).map fun i=>V.int (lo+((k+i:Nat):Int))) l:=by
  intro l
  induction l with
  |nil=>intro k _;exact .nil
  |cons x r ih=>
   intro k hx
   rw [length_cons,List.range_succ_eq_map,map_cons,map_map]
   obtain ⟨t,e⟩:=hx 0 x rfl
   refine .cons ⟨t,by simpa using e⟩ ?_
   have:=ih (k+1) fun j v hv=>by
    obtain ⟨t,e⟩:=hx (j+1) v (by simpa using hv)
    exact ⟨t,by rw [e];congr 2;omega⟩
   have e2:((fun i=>V.int (lo+((k+i:Nat):Int)))∘Nat.succ)=fun i=>V.int (lo+((k+1+i:Nat):Int)):=by
    funext i
    show V.int (lo+((k+(i+1):Nat):Int))=_
    congr 2
    omega
   rw [e2]
   exact this
 have:=key acc.toList 0 fun j v hv=>by
  obtain ⟨t,e⟩:=h2 j v (by simpa using hv)
  exact ⟨t,by rw [e];simp⟩
 rw [Array.length_toList,h1,hn] at this
 unfold Za8
 simpa using this
theorem ZiE {A:Around} {E:Value->Shared->Prop} {Q:List Value->Shared->Prop} {a:Addr} {xs:List V} (I:Inv X Za σ H s) (hh:A.handled=none) (hx:Src X.K H a xs) (hz:xs.length<=16777216)
 (h:∀vs h' tk,ZD xs vs->(∀b o,s.heap.get? b=some o->h'.get? b=some o)->Q vs {s with heap:=h',toks:=tk}):wpAny (model X.prog X.w) A (collect (.ref a)) Q E s:=by
 have hsl:sizeLine=16777216:=sizeLine_eq
 rcases hx with hx|hx|⟨lo,hi,hx,rfl,b1,b2,b3,b4⟩
 ·obtain ⟨its,rv,p,hz'⟩:=I.list hx
  obtain ⟨o,ho,hc,n,hd⟩:=p.isList
  have:=rv.length
  exact wpAny_collect_seq a (.inl rfl) ho hc hd (fun h' k=>h its h' s.toks rv k) (by rw [size_toArray];omega)
 ·obtain ⟨its,rv,p,hz'⟩:=I.tuple hx
  obtain ⟨o,ho,hc,n,hd⟩:=id p
  have:=rv.length
  exact wpAny_collect_seq a (.inr rfl) ho hc hd (fun h' k=>h its h' s.toks rv k) (by rw [size_toArray];omega)
 ·obtain ⟨t,u,v,hr⟩:=I.hok a _ hx
  have hl:(Za8 lo hi).length=(hi-lo).toNat:=by unfold Za8;simp
  have hr1:IsRange (s.heap.push {cls:=.type "list",data:=.seq ([]:List Value).toArray}) a lo hi 1 t u v:=Heap.get?_push_of_some _ hr
  unfold collect
  refine wpAny_bind (wpAny_runValue (codeAny_builtin F.entry_proto_collect ?_))
  rw [Around.under_plainId F.plain_proto_collect _]
  show wpAny _ A.in1 (newList [] >>=fun l=>again (.builtin "list.__iadd__" ⟨[l,.ref a],[]⟩)) _ _ s
  refine wpAny_bind (wpAny_newObj_type ?_)
  refine wpAny_pure ⟨plainId_quiet F.plain_list_iadd _,codeAny_builtin F.entry_list_iadd ?_⟩
  rw [Around.under_plainId F.plain_list_iadd _]
  show wpAny _ A.in1 (Builtin.List.listExtendWith (.ref s.heap.objs.size) (.ref a) (.ref s.heap.objs.size)) _ _ _
  have fin:∀s':Shared,(∃h' tk acc c',(∀b o,b≠s.heap.objs.size->(s.heap.push {cls:=.type "list",data:=.seq ([]:List Value).toArray}).get? b=some o->h'.get? b=some o)/\h'.get? s.heap.objs.size=some {cls:=.type "list",dict:=none,data:=.seq acc c',slots:=#[]}/\
   ItemsOf (fun i v=>∃t,v=.int (lo+i * 1) t) acc (hi-lo).toNat/\s'= {s with heap:=h',toks:=tk})->wpAny (model X.prog X.w) A (match Value.ref s.heap.objs.size with
   |Value.ref a=>do
    match (<-load a).data with
     |Data.seq xs _=>pure xs.toList
     |_=>unsupported "internal:collect"
   |_=>unsupported "internal:collect") Q E s':=by
   rintro s' ⟨h',tk,acc,c',k,hS,hi',rfl⟩
   show wpAny _ A (load s.heap.objs.size >>=_) _ _ _
   refine wpAny_bind (wpAny_load hS ?_)
   exact wpAny_pure (h _ h' tk (Zhj rfl hi') fun b o e=>k b o (Nat.ne_of_lt (Heap.lt_size e)) (Heap.get?_push_of_some _ e))
  refine wpAny_mono (wpAny_extend_range (s:= {s with heap:=s.heap.push {cls:=.type "list",data:=.seq ([]:List Value).toArray} }) (R:=fun r s'=>r=.ok (.ret (.ref s.heap.objs.size))/\∃h' tk acc c',(∀b o,b≠s.heap.objs.size->(s.heap.push {cls:=.type "list",data:=.seq ([]:List Value).toArray}).get? b=some o->h'.get? b=some o)/\h'.get? s.heap.objs.size=some {cls:=.type "list",dict:=none,data:=.seq acc c',slots:=#[]}/\
   ItemsOf (fun i v=>∃t,v=.int (lo+i * 1) t) acc (hi-lo).toNat/\s'= {s with heap:=h',toks:=tk}) (n:=(hi-lo).toNat) hh hr1 (small_one b1 b2 b3 b4) (by rw [rangeSize_one];split<;>omega) (by omega) s.heap.objs.size (.ref s.heap.objs.size) 0 (Heap.get?_push_size _ rfl) fun h' tk acc c' k hS hi'=>⟨rfl,h',tk,acc,c',k,hS,hi',rfl⟩) (fun fn s' hf=>?_) fun e s' he=>?_
  ·cases fn with
   |done fl=>
    obtain ⟨e,hf⟩:=hf
    cases e
    exact fin s' hf
   |again c'=>
    refine ⟨hf.1,codeAny_mono hf.2 fun r s2 hr=>?_⟩
    obtain ⟨e,hr⟩:=hr
    subst e
    exact fin s2 hr
  ·exact absurd he.1 (by intro z;cases z)
def Zjf (K:PySem.W.Frag):List V->Hp->VK->Prop:=fun xs H Q=>match xs with
 |[.ref a]=>∃ys,Src K H a ys/\ys.length<=16777216/\∀l,H l=none->Q (.ref l) (upd H l (.lst ys))
 |_=>False
theorem ZqO (hc:X.calm=true):Jc X (.type "list") (Zjf X.K):=by
 intro Za s σ H xs us Q I r h
 unfold Zjf at h
 split at h
 ·rename_i a
  obtain ⟨ys,hx,hz,q⟩:=h
  obtain ⟨u,rfl,ru⟩:=JA r
  cases ru
  rcases hx with hx|hx|⟨lo,hi,hx,rfl,b1,b2,b3,b4⟩
  ·exact ZcO Za s σ H _ _ Q I (.cons (show Z2 (.ref a) (.ref a) from rfl) .nil) ⟨a,ys,rfl,.inl hx,q⟩
  ·exact ZcO Za s σ H _ _ Q I (.cons (show Z2 (.ref a) (.ref a) from rfl) .nil) ⟨a,ys,rfl,.inr hx,q⟩
  ·obtain ⟨t,u,v,hr⟩:=I.hok a _ hx
   have hl:(Za8 lo hi).length=(hi-lo).toNat:=by unfold Za8;simp
   have hsl:sizeLine=16777216:=sizeLine_eq
   refine call_list_range (n:=(hi-lo).toNat) (I.ok.hd hc) hr (small_one b1 b2 b3 b4) (by rw [rangeSize_one];split<;>omega) (by omega) fun h' tk acc c' k hS hi'=>?_
   have hn:=I.hok.fresh (Nat.le_refl s.heap.objs.size)
   refine ⟨.ref s.heap.objs.size,_,I.laid (o:=.lst (Za8 lo hi)) (t':=tk) k (Nat.le_refl _) ⟨by omega,acc.toList,c',Zhj rfl hi',?_⟩,rfl,q _ hn⟩
   simpa using hS
 ·exact h.elim
theorem Ziq {kL:List (List Nat)} {ks:List Value} (r:ZD (kL.map fun k=>V.str (T k)) ks) {i:Nat} (hi:i<kL.length):∃t,ks.getD i Value.none=.str (T (kL.getD i [])) t:=by
 have e:(kL.map fun k=>V.str (T k))[i]?=some (V.str (T (kL.getD i []))):=by
  rw [List.getElem?_map,List.getD_eq_getElem?_getD,List.getElem?_eq_getElem hi]
  rfl
 obtain ⟨u,hu,t,rfl⟩:=r.get e
 exact ⟨t,by rw [List.getD_eq_getElem?_getD,hu];rfl⟩
theorem Zj8 {prog:Program} {w:World} {A:Around} {kL:List (List Nat)} {ks:List Value} (r:ZD (kL.map fun k=>V.str (T k)) ks):LS.ZdZ (O:=strKind.toKeyOrd) (fun i=>kL.getD i []) kL.length (fun s'=>s'=s) (kas_ask prog w A oneType' ks):=by
 refine ⟨fun i j C s1 hi hj e h=>?_⟩
 subst e
 unfold kas_ask
 obtain ⟨t,e1⟩:=Ziq r hi
 obtain ⟨t',e2⟩:=Ziq r hj
 rw [e1,e2]
 refine PySem.W.kas_lt_str ?_
 have h:=h s1 rfl
 have e3:(T (kL.getD i [])).cps.toList=kL.getD i []:=L_T _
 have e4:(T (kL.getD j [])).cps.toList=kL.getD j []:=L_T _
 rw [e3,e4]
 exact h
theorem Zha {M:Model} {A:Around} {E:Value->Shared->Prop} {kL:List (List Nat)} {ks:List Value} (r:ZD (kL.map fun k=>V.str (T k)) ks) (h2:2<=kL.length) {Q:SortKind->Shared->Prop} (h:Q oneType' s):wpAny M A (keyKind' (List.toArray ks)) Q E s:=by
 have hl:=r.length
 rw [length_map] at hl
 refine PySem.W.kas_kind (T:=.type "str") (by omega) (fun v hv=>?_) (by decide) (by decide) h
 obtain ⟨i,hi⟩:=List.getElem?_of_mem hv
 have hlt:i<kL.length:=by
  have:=(List.getElem?_eq_some_iff.mp hi).1
  omega
 obtain ⟨t,e⟩:=Ziq r hlt
 rw [List.getD_eq_getElem?_getD,hi] at e
 have e:v=.str (T (kL.getD i [])) t:=e
 rw [e]
 exact PySem.W.Looks.of_pure rfl
theorem ZkP {Q:VK} {E:Value->Shared->Prop} {f a:Addr} {xs:List V} {kL:List (List Nat)} (hc:X.calm=true) (hr:YD 1 X.A) (I:Inv X Za σ H s) (hx:Src X.K H a xs) (h64:xs.length<64) (hl:kL.length=xs.length)
 (hcall:∀ps s' (i:Nat) (x:V) (k:V) (u:Value),Inv X (Za++ps) σ H s'->xs[i]?=some x->(kL.map fun k=>V.str (T k))[i]?=some k->Z2 x u->wpAny (model X.prog X.w) X.A.in1.in1 (call (.ref f) [u]) (EP X (Za++ps) σ fun y H'=>H'=H/\y=k) (fun _ _=>False) s')
 (h:∀l (p:List Nat),H l=none->p.Perm (List.range xs.length)->p.Pairwise (fun i j=>kL.getD i []<=kL.getD j []/\(kL.getD i []=kL.getD j []->i<j))->Q (.ref l) (upd H l (.lst (p.map fun i=>xs.getD i .non)))):
 wpAny (model X.prog X.w) X.A (call (.builtin "sorted") [.ref a] [(Str.ofString "key",.ref f)]) (EP X Za σ Q) E s:=by
 have hsl:sizeLine=16777216:=sizeLine_eq
 have hh:X.A.handled=none:=I.ok.hd hc
 refine call_function_entry_kw kind_sorted plain_sorted entry_sorted (ksk_s1 _ _) ?_
 unfold Builtin.«sorted»
 refine wpAny_bind (m:=checkCount "sorted" 1 1 _) (wpAny_pure ?_)
 refine wpAny_bind (ZiE I hh hx (by omega) fun vs h1 tk rv k=>?_)
 have lv:=rv.length
 refine wpAny_bind (wpAny_newList ?_ (by omega))
 have k2:∀b o,s.heap.get? b=some o->(h1.push {cls:=.type "list",data:=.seq vs.toArray}).get? b=some o:=fun b o e=>Heap.get?_push_of_some _ (k b o e)
 have I2:Inv X Za σ H {s with heap:=h1.push {cls:=.type "list",data:=.seq vs.toArray},toks:=tk}:=I.kept k2
 have I1:Inv X Za σ H {s with heap:=h1,toks:=tk}:=I.kept k
 have Wa:Own X Za H h1.objs.size:=Own.fresh I1 (Nat.le_refl _)
 have ho:(h1.push {cls:=.type "list",data:=.seq vs.toArray}).get? h1.objs.size=some (seqObj "list" vs.toArray 0):=Heap.get?_push_size _ rfl
 refine wpAny_bind (wpAny_holding (wpAny_call_entry_kw slot_list_sort ⟨_,ho,rfl⟩ entry_list_sort ?_ (ksk_l1 _ _)))
 rw [ksk_t1]
 unfold ksk_tree
 refine wpAny_bind (listItems_at ho rfl ?_)
 refine wpAny_bind (listUpdate_at ho rfl ?_ (by rw [size_toArray];omega) (Nat.zero_le _))
 have hs1:=Heap.SameBut.update (h1.push {cls:=.type "list",data:=.seq vs.toArray}) h1.objs.size (Obj.mapSeq fun _=>(#[]:Array Value))
 obtain ⟨e1,ho1⟩:∃e1,((h1.push {cls:=.type "list",data:=.seq vs.toArray}).update h1.objs.size (Obj.mapSeq fun _=>(#[]:Array Value))).get? h1.objs.size=some (seqObj "list" #[] e1):=⟨_,get?_update_seq ho fun _=>#[]⟩
 refine wpAny_bind (seqEpoch_at ho1 rfl ?_)
 refine wpAny_bind (wpAny_newTuple ?_ (by show vs.length<=_;omega))
 refine wpAny_bind (wpAny_newList ?_ (Nat.zero_le _))
 refine wpAny_holding ?_
 have I3:Inv X Za σ H {s with heap:=(h1.push {cls:=.type "list",data:=.seq vs.toArray}).update h1.objs.size (Obj.mapSeq fun _=>(#[]:Array Value)),toks:=tk}:=
  I2.alter (s:= {s with heap:=h1.push {cls:=.type "list",data:=.seq vs.toArray},toks:=tk}) Wa ho (fun v z=>by cases z) fun b u hb z=>(hs1.2 b hb).trans z
 generalize hg4:(h1.push {cls:=.type "list",data:=.seq vs.toArray}).update h1.objs.size (Obj.mapSeq fun _=>(#[]:Array Value))=h4 at *
 have I5:Inv X Za σ H {s with heap:=(h4.push {cls:=.type "tuple",data:=.seq vs.toArray}).push {cls:=.type "list",data:=.seq ([]:List Value).toArray},toks:=tk}:=
  I3.kept (s:= {s with heap:=h4,toks:=tk}) (t':=tk) fun b o e=>Heap.get?_push_of_some _ (Heap.get?_push_of_some _ e)
 have ha5:((h4.push {cls:=.type "tuple",data:=.seq vs.toArray}).push {cls:=.type "list",data:=.seq ([]:List Value).toArray}).get? h1.objs.size=some (seqObj "list" #[] e1):=Heap.get?_push_of_some _ (Heap.get?_push_of_some _ ho1)
 have I4:Inv X Za σ H {s with heap:=h4.push {cls:=.type "tuple",data:=.seq vs.toArray},toks:=tk}:=I3.kept (s:= {s with heap:=h4,toks:=tk}) (t':=tk) fun b o e=>Heap.get?_push_of_some _ e
 have ha4:(h4.push {cls:=.type "tuple",data:=.seq vs.toArray}).get? h1.objs.size=some (seqObj "list" #[] e1):=Heap.get?_push_of_some _ ho1
 have Wk:Own X (Za++[(h1.objs.size,seqObj "list" #[] e1)]) H (h4.push {cls:=.type "tuple",data:=.seq vs.toArray}).objs.size:=
  Own.fresh (I4.pin1 (s:= {s with heap:=h4.push {cls:=.type "tuple",data:=.seq vs.toArray},toks:=tk}) Wa ha4 fun v z=>by cases z) (Nat.le_refl _)
 refine ZpF (s:= {s with heap:=(h4.push {cls:=.type "tuple",data:=.seq vs.toArray}).push {cls:=.type "list",data:=.seq ([]:List Value).toArray},toks:=tk}) (kV:=kL.map fun k=>V.str (T k)) rv (by rw [length_map];omega) (by omega) I5 Wa ha5 Wk (Heap.get?_push_size _ rfl) hcall fun s6 ks e I6 hk6 rk=>?_
 have lk:=rk.length
 rw [length_map] at lk
 refine Zua (O:=strKind.toKeyOrd) (key:=fun i=>kL.getD i []) (κ:=oneType') rv (by omega) (by omega) I6 Wa Wk hk6 (fun h2 Q' q'=>Zha rk (by omega) q') ?_ fun p s7 hp hu I7=>⟨_,rfl,wpAny_pure ⟨_,rfl,.ref h1.objs.size,_,I7,rfl,?_⟩⟩
 ·have:=Zj8 (s:=s6) (prog:=X.prog) (w:=X.w) (A:=X.A.in1.in1) rk
  rw [show kL.length=vs.length by omega] at this
  exact this
 ·refine h _ p.toList Wa.free (by unfold LS.Pm at hp;rw [lv];exact hp) ?_
  have hps:=hp.size
  refine List.pairwise_iff_getElem.mpr fun i j hi hj hij=>?_
  have:=hu.1 i j (Nat.le_of_lt hij) (by rw [Array.length_toList] at hj;omega)
  have st:=hu.2 i j hij (by rw [Array.length_toList] at hj;omega)
  have gi:LS.gt p i=p.toList[i]:=by
   unfold LS.gt
   rw [Array.getD_eq_getD_getElem?]
   rw [Array.length_toList] at hi
   simp [hi]
  have gj:LS.gt p j=p.toList[j]:=by
   unfold LS.gt
   rw [Array.getD_eq_getD_getElem?]
   rw [Array.length_toList] at hj
   simp [hj]
  rw [gi,gj] at this st
  have this:decide (kL.getD p.toList[j] []<kL.getD p.toList[i] [])=false:=this
  exact ⟨List.not_lt.mp (of_decide_eq_false this),st⟩
end
def Zc4 (e:Addr) (h:Heap):Prop:=∃o vs,h.get? e=some o/\o.data=.fields vs/\vs[2]?=some .none
theorem Zc4.push {e:Addr} {h:Heap} (x:Zc4 e h) (o':Obj):Zc4 e (h.push o'):=by
 obtain ⟨o,vs,h1,h2,h3⟩:=x
 exact ⟨o,vs,Heap.get?_push_of_some _ h1,h2,h3⟩
theorem Zc4.upd {e a:Addr} {h:Heap} (x:Zc4 e h) (f:Obj->Obj) (hf:∀o vs,o.data=.fields vs->vs[2]?=some .none->∃vs',(f o).data=.fields vs'/\vs'[2]?=some .none):Zc4 e (h.update a f):=by
 obtain ⟨o,vs,h1,h2,h3⟩:=x
 by_cases q:a=e
 ·subst q
  obtain ⟨vs',g1,g2⟩:=hf o vs h2 h3
  exact ⟨f o,vs',Heap.get?_update_self f h1 (Obj.isFreed_of_fields g1),g1,g2⟩
 ·exact ⟨o,vs,(Heap.get?_update_other _ _ q).trans h1,h2,h3⟩
def Kp {α:Type} (t:Sem α):Prop:=∀(M:Model) (Γ:PySem.Ctx) (Q:α->Pos->Shared->Prop) (E:Value->Pos->Shared->Prop) (p:Pos) (s:Shared) (e:Addr),Zc4 e s.heap->Sem.wp M Γ t Q E p s->Sem.wp M Γ t (fun a p' s'=>Q a p' s'/\Zc4 e s'.heap) E p s
section
variable {α β:Type}
theorem Kp.pure (a:α):Kp (Pure.pure a:Sem α):=fun M Γ Q E p s e x h=>by
 rw [Sem.wp_pure'] at h ⊢
 exact ⟨h,x⟩
theorem Kp.bind {m:Sem α} {f:α->Sem β} (hm:Kp m) (hf:∀a,Kp (f a)):Kp (m >>=f):=fun M Γ Q E p s e x h=>by
 rw [Sem.wp_bind'] at h ⊢
 exact Sem.wp_mono M Γ m (fun a p' s' z=>hf a M Γ Q E p' s' e z.2 z.1) (fun _ _ _ z=>z) p s (hm M Γ _ E p s e x h)
theorem Kp.unsupported (w:String):Kp (PySem.unsupported w:Sem α):=fun M Γ Q E p s e x h=>by
 have:Sem.wp M Γ (Sem.unsupported w:Sem α) Q E p s:=h
 rw [Sem.wp_unsupported] at this
 exact this.elim
theorem Kp.load (a:Addr):Kp (PySem.load a):=fun M Γ Q E p s e x h=>by
 have h:Sem.wp M Γ (Sem.load a none Sem.pure) Q E p s:=h
 show Sem.wp M Γ (Sem.load a none Sem.pure) _ E p s
 rw [Sem.wp_load] at h ⊢
 obtain ⟨o,h1,h2⟩:=h
 refine ⟨o,h1,?_⟩
 rw [Sem.wp_pure] at h2 ⊢
 exact ⟨h2,x⟩
theorem Kp.update (a:Addr) (f:Obj->Obj) (hf:∀o vs,o.data=.fields vs->vs[2]?=some .none->∃vs',(f o).data=.fields vs'/\vs'[2]?=some .none):Kp (PySem.update a f):=fun M Γ Q E p s e x h=>by
 have h:Sem.wp M Γ (Sem.update a none f Sem.pure) Q E p s:=h
 show Sem.wp M Γ (Sem.update a none f Sem.pure) _ E p s
 rw [Sem.wp_update] at h ⊢
 refine ⟨h.1,?_⟩
 have h2:=h.2
 rw [Sem.wp_pure] at h2 ⊢
 exact ⟨h2,x.upd f hf⟩
theorem Kp.alloc (o:Obj):Kp (PySem.alloc o):=fun M Γ Q E p s e x h=>by
 have h:Sem.wp M Γ (Sem.alloc o Sem.pure) Q E p s:=h
 show Sem.wp M Γ (Sem.alloc o Sem.pure) _ E p s
 rw [Sem.wp_alloc] at h ⊢
 rw [Sem.wp_pure] at h ⊢
 exact ⟨h,x.push o⟩
theorem Kp.stack:Kp PySem.stack:=fun M Γ Q E p s e x h=>⟨h,x⟩
theorem Kp.ite {c:Prop} [Decidable c] {a b:Sem α} (ha:Kp a) (hb:Kp b):Kp (if c then a else b):=by
 split
 ·exact ha
 ·exact hb
theorem Kp.fieldsOf (v:Value):Kp (PySem.fieldsOf v):=by
 unfold PySem.fieldsOf
 split
 ·refine Kp.bind (Kp.load _) fun o=>?_
  split
  ·exact Kp.pure _
  ·exact Kp.unsupported _
 ·exact Kp.unsupported _
theorem Kp.field (v:Value) (i:Nat):Kp (PySem.field v i):=by
 unfold PySem.field
 refine Kp.bind (Kp.fieldsOf v) fun vs=>?_
 split
 ·exact Kp.pure _
 ·exact Kp.unsupported _
theorem Kp.setField (v:Value) {i:Nat} (hi:i≠2) (x:Value):Kp (PySem.setField v i x):=by
 unfold PySem.setField
 split
 ·unfold PySem.updateField
  refine Kp.bind (Kp.load _) fun o=>?_
  split
  ·refine Kp.ite (Kp.update _ _ fun o vs h1 h2=>⟨_,Obj.data_mapFields h1 _,?_⟩) (Kp.unsupported _)
   rw [Array.getElem?_setIfInBounds_ne hi]
   exact h2
  ·exact Kp.unsupported _
 ·exact Kp.unsupported _
theorem Kp.newFields (ty:String) (vs:List Value):Kp (PySem.newFields ty vs):=by
 unfold PySem.newFields PySem.newObj
 dsimp only
 have as:Kp (PySem.newObjAsIs (.type ty) (.fields vs.toArray)):=by
  unfold PySem.newObjAsIs
  exact Kp.bind (Kp.alloc _) fun a=>Kp.pure _
 exact Kp.ite (Kp.bind (Kp.unsupported _) fun _=>as) as
theorem Kp.readyFrames:∀l:List Env,Kp (PySem.readyFrames l)
 |[]=>Kp.pure _
 |env::outer=>by
  unfold PySem.readyFrames
  split
  ·refine Kp.bind (Kp.load _) fun o=>Kp.ite (Kp.pure _) (Kp.bind ?_ fun _=>Kp.bind ?_ fun _=>Kp.bind ?_ fun _=>Kp.readyFrames outer)
   ·unfold PySem.behindIsImport
    exact Kp.ite (Kp.pure _) (Kp.ite (Kp.pure _) (Kp.bind (Kp.field _ _) fun _=>Kp.pure _))
   ·unfold PySem.keptBack
    split
    ·exact Kp.ite (Kp.pure _) (Kp.bind (Kp.bind Kp.stack fun _=>Kp.pure _) fun _=>Kp.pure _)
    ·exact Kp.pure _
   ·exact Kp.update _ _ fun o vs h1 h2=>⟨vs,h1,h2⟩
  ·exact Kp.unsupported _
theorem Kp.frameOf (env:Env):Kp (PySem.frameOf env):=by
 unfold PySem.frameOf
 refine Kp.bind (Kp.bind Kp.stack fun _=>Kp.pure _) fun l=>Kp.bind ?_ fun r=>?_
 ·unfold PySem.frameObject
  split
  ·exact Kp.pure _
  ·exact Kp.bind (Kp.readyFrames _) fun _=>Kp.pure _
 ·split
  ·exact Kp.pure _
  ·exact Kp.unsupported _
theorem Kp.entryPlaceOf (f:Addr) (b:Bool):Kp (PySem.entryPlaceOf f b):=by
 unfold PySem.entryPlaceOf
 refine Kp.bind Kp.stack fun acts=>?_
 split
 ·exact Kp.pure _
 ·exact Kp.pure _
theorem Kp.setFlight (v:Value) (f:Option Addr):Kp (PySem.setFlight v f):=by
 unfold PySem.setFlight
 refine Kp.bind (Kp.field _ _) fun tb=>Kp.ite (Kp.setField _ (by decide) _) (Kp.pure _)
theorem Kp.noteFrame (v:Value) (env:Env):Kp (PySem.noteFrame v env):=by
 unfold PySem.noteFrame
 split
 ·rename_i f _
  refine Kp.bind (Kp.field _ _) fun hd=>?_
  have qP:Kp (do PySem.setField v 1 (<-EntryCells.newEntry hd (<-PySem.frameOf env) .none (rawInt f) .none (<-PySem.entryPlaceOf f (hd !=.none)))):=
   Kp.bind (Kp.frameOf env) fun _=>Kp.bind (Kp.entryPlaceOf _ _) fun _=>Kp.bind (Kp.newFields _ _) fun _=>Kp.setField _ (by decide) _
  refine Kp.ite (Kp.bind (Kp.field _ _) fun _=>Kp.ite (Kp.pure _) (Kp.bind (Kp.setField _ (by decide) _) fun _=>qP)) qP
 ·exact Kp.unsupported _
theorem Kp.leaving (env:Env) (v:Value):Kp (PySem.leaving env v):=by
 unfold PySem.leaving
 exact Kp.bind (Kp.noteFrame _ _) fun _=>Kp.setFlight _ _
theorem Kp.any {t:Sem α} (k:Kp t) {M:Model} {A:Around} {Q:α->Shared->Prop} {E:Value->Shared->Prop} {s:Shared} {e:Addr} (x:Zc4 e s.heap) (h:wpAny M A t Q E s):wpAny M A t (fun a s'=>Q a s'/\Zc4 e s'.heap) E s:=fun Γ p hΓ=>k M Γ _ _ p s e x (h Γ p hΓ)
end
def Zd3 (base:Heap) (l:List Env) (e:Addr) (cls a0:Value) (h:Heap):Prop:=Heap.FlyingW base l e cls a0 h/\Zc4 e h
section
variable {M:Model} {A:Around} {E:Value->Shared->Prop} {s:Shared} {base:Heap} {env:Env} {outer l:List Env} {L e:Addr} {cls a0:Value} {Q:Unit->Shared->Prop}
theorem ZiV (hfr:A.frames=some (env::outer)) (hf:env.frame=some L) (hfl:Zd3 base (env::outer) e cls a0 s.heap)
 (hQ:∀h',Zd3 base outer e cls a0 h'->s.heap.UpToSlots h'->Q () {s with heap:=h'}):wpAny M A (leaving env (.ref e)) Q E s:=by
 have w:=wpAny_leaves_onW (M:=M) (A:=A) (E:=E) (Q:=fun _ s'=>∃h',s'= {s with heap:=h'}/\Heap.FlyingW base outer e cls a0 h'/\s.heap.UpToSlots h') hfr hf hfl.1 fun h' x1 x2=>⟨h',rfl,x1,x2⟩
 refine wpAny_mono ((Kp.leaving env (.ref e)).any hfl.2 w) (fun a s' z=>?_) fun _ _ z=>z
 obtain ⟨⟨h',rfl,x1,x2⟩,c⟩:=z
 exact hQ h' ⟨x1,c⟩ x2
theorem Zgs {h:Heap} {args:List Value} (hfr:A.frames=some (env::outer)) (hf:env.frame=some L) (hkb:base.StaysIn h) (hl:h.FunFrames base (env::outer)) (hx:Heap.MadeExcOf h s.heap e cls args)
 (hQ:∀h' t,Zd3 base outer e cls (.ref t) h'->h'.TupAt t args->base.get? t=none->s.heap.UpToSlots h'->Q () {s with heap:=h'}):wpAny M A (leaving env (.ref e)) Q E s:=by
 have w:=wpAny_leaves_madeW (M:=M) (A:=A) (E:=E) (Q:=fun _ s'=>∃h' t,s'= {s with heap:=h'}/\Heap.FlyingW base outer e cls (.ref t) h'/\h'.TupAt t args/\base.get? t=none/\s.heap.UpToSlots h') hfr hf hkb hl hx fun h' t x1 x2 x3 x4=>⟨h',t,rfl,x1,x2,x3,x4⟩
 have c0:Zc4 e s.heap:=by
  obtain ⟨t,h1,_⟩:=hx.there
  exact ⟨_,_,h1,rfl,rfl⟩
 refine wpAny_mono ((Kp.leaving env (.ref e)).any c0 w) (fun a s' z=>?_) fun _ _ z=>z
 obtain ⟨⟨h',t,rfl,x1,x2,x3,x4⟩,c⟩:=z
 exact hQ h' t ⟨x1,c⟩ x2 x3 x4
theorem Zkt (hfr:A.frames=some (env::outer)) (hf:env.frame=some L) (hfl:Zd3 base (env::outer) e cls a0 s.heap)
 (hQ:∀h',Heap.HeldW base (env::outer) e cls a0 L h'/\Zc4 e h'->s.heap.UpToSlots h'->Q () {s with heap:=h'}):wpAny M A (noteFrame (.ref e) env) Q E s:=by
 have w:=wpAny_looks_onW (M:=M) (A:=A) (E:=E) (Q:=fun _ s'=>∃h',s'= {s with heap:=h'}/\Heap.HeldW base (env::outer) e cls a0 L h'/\s.heap.UpToSlots h') hfr hf hfl.1 fun h' x1 x2=>⟨h',rfl,x1,x2⟩
 refine wpAny_mono ((Kp.noteFrame (.ref e) env).any hfl.2 w) (fun a s' z=>?_) fun _ _ z=>z
 obtain ⟨⟨h',rfl,x1,x2⟩,c⟩:=z
 exact hQ h' ⟨x1,c⟩ x2
theorem ZsD (hh:Heap.HeldW base l e cls a0 L s.heap/\Zc4 e s.heap) (hQ:∀h',Zd3 base l e cls a0 h'->s.heap.UpToSlots h'->Q () {s with heap:=h'}):wpAny M A (setFlight (.ref e) none) Q E s:=by
 have w:=wpAny_landsW (M:=M) (A:=A) (E:=E) (Q:=fun _ s'=>∃h',s'= {s with heap:=h'}/\Heap.FlyingW base l e cls a0 h'/\s.heap.UpToSlots h') hh.1 fun h' x1 x2=>⟨h',rfl,x1,x2⟩
 refine wpAny_mono ((Kp.setFlight (.ref e) none).any hh.2 w) (fun a s' z=>?_) fun _ _ z=>z
 obtain ⟨⟨h',rfl,x1,x2⟩,c⟩:=z
 exact hQ h' ⟨x1,c⟩ x2
theorem ZgV (hh:Zd3 base l e cls a0 s.heap) (hQ:∀h',Zd3 base l e cls a0 h'->s.heap.UpToSlots h'->Q () {s with heap:=h'}):wpAny M A (setFlight (.ref e) none) Q E s:=by
 have w:=lands_againW (M:=M) (A:=A) (E:=E) (Q:=fun _ s'=>∃h',s'= {s with heap:=h'}/\Heap.FlyingW base l e cls a0 h'/\s.heap.UpToSlots h') hh.1 fun h' x1 x2=>⟨h',rfl,x1,x2⟩
 refine wpAny_mono ((Kp.setFlight (.ref e) none).any hh.2 w) (fun a s' z=>?_) fun _ _ z=>z
 obtain ⟨⟨h',rfl,x1,x2⟩,c⟩:=z
 exact hQ h' ⟨x1,c⟩ x2
end
def CX1 (P:Program) (w:World):CXT:=fun outer H s E e s'=>∃(a C:Addr) (a0:Value) (B:Heap) (H':Hp),e=.ref a/\s'.os=s.os/\AllBare s'.gens/\Un (frs outer) [] H H' s.heap s'.heap/\HOk P w H' B/\
 (∀b o,s.heap.get? b=some o->H b=none->b∉frs outer->B.get? b=some o)/\(∀b o,s.heap.get? b=some o->b∉frs outer->∃o',B.get? b=some o')/\Zd3 B outer a (.ref C) a0 s'.heap/\E (.ref C) none H'
theorem ZmX {P:Program} {w:World} {outer:List Env} {H:Hp} {s:Shared} {e:Value} {s':Shared} (h:CX1 P w outer H s (fun _ _ _=>False) e s'):False:=by
 obtain ⟨_,_,_,_,_,_,_,_,_,_,_,_,_,q⟩:=h
 exact q
theorem Zqy {l:List Env} {env:Env} {b:Addr} (h:env∈l) (hf:env.frame=some b):b∈frs l:=List.mem_filterMap.mpr ⟨env,h,hf⟩
structure Tk (X:Cx) (F:St->XK):Prop where
 pass:∀(Za:List (Addr×Obj)) (σ:St) (H:Hp) (s:Shared) (e:Value) (s':Shared),Inv X Za σ H s->CX1 X.prog X.w X.stack H s (F σ) e s'->X.xe e s'
 own:PassesOwn (model X.prog X.w) X.A X.env X.xe
structure TkN (X:Cx) (F:St->XK):Prop extends Tk X F where
 new:∀(Za:List (Addr×Obj)) (σ:St) (H:Hp) (s:Shared) (h':Heap) (a C:Addr) (args:List Value),Inv X Za σ H s->Heap.MadeExcOf s.heap h' a (.ref C) args->F σ (.ref C) none H->X.xe (.ref a) {s with heap:=h'}
section
variable {P:Program} {w:World} {K:PySem.W.Frag} {mg:Str->Option Value} {base:Heap} {N:List Str} {qual:Str} {scope:Scope} {f:Addr} {cdv:Value} {A:Around} {outer:List Env} {s:Shared} {H:Hp} {E:XK}
theorem Z0:TkN (Zav (CX1 P w) P w K mg base N qual scope f cdv A outer s H E) (fun _=>E):=by
 refine ⟨⟨fun Za σ H1 s1 e s2 I h=>?_,PassesOwn.leaving⟩,fun Za σ H1 s1 h' a C args I hm hE=>?_⟩
 ·obtain ⟨a,C,a0,B,H',rfl,h1,h2,h3,h4,h5,h5',h6,h7⟩:=h
  have hfr:(A.deeper (envOfC qual scope s.heap.objs.size f cdv)).frames=some (envOfC qual scope s.heap.objs.size f cdv::outer):=I.ok.frames
  refine ZiV hfr rfl h6 fun h3' hfl hup=>?_
  have nL:∀b o,s.heap.get? b=some o->b≠s.heap.objs.size:=fun b o e=>Nat.ne_of_lt (Heap.lt_size e)
  have inB:∀b o,s.heap.get? b=some o->H b=none->b∉frs outer->B.get? b=some o:=fun b o e n hb=>by
   refine h5 b o (I.base.keep b o e n hb (by simp [Zav])) (I.base.free b o e n (by simp [Zav])) fun z=>?_
   rcases mem_cons.mp (I.stkSub b z) with z|z
   ·exact nL b o e z
   ·exact hb z
  have thB:∀b o,s.heap.get? b=some o->b∉frs outer->∃o',B.get? b=some o':=fun b o e hb=>by
   obtain ⟨o1,e1⟩:=I.base.there b o e (by simp [Zav])
   refine h5' b o1 e1 fun z=>?_
   rcases mem_cons.mp (I.stkSub b z) with z|z
   ·exact nL b o e z
   ·exact hb z
  have frame:∀b o,s.heap.get? b=some o->b∈frs outer->∃sl,h3'.get? b=some {o with slots:=sl}:=fun b o e hb=>by
   have n:H b=none:=I.ok.frf b hb
   obtain ⟨sl,e1⟩:=I.base.slot b o e n hb (by simp [Zav])
   obtain ⟨sl2,e2⟩:=h3.any e1 (I.base.free b o e n (by simp [Zav])) (by simp)
   have hd:∀vs,o.data≠ .fields vs:=by
    obtain ⟨_,o',ho',hd'⟩:=I.ok.funs.mem hb
    have ho':s.heap.get? b=some o':=ho'
    rw [e] at ho'
    cases ho'
    exact hd'
   obtain ⟨sl3,e3⟩:=hup b _ e2 hd
   exact ⟨sl3,e3⟩
  refine ⟨a,C,a0,B,H',rfl,h1.trans I.os,h2,⟨fun b o e n hb _=>hfl.1.1 b o (inB b o e n hb),fun b o e n hb _=>frame b o e hb,fun b o e n _=>?_,fun b o e _=>?_,fun b xs e=>h3.tups b xs (I.base.tups b xs e),fun b o u e=>h3.frzs b o u (I.base.frzs b o u e),fun b ps e=>?_⟩,h4,inB,thB,hfl,h7⟩
  ·obtain ⟨o',e1⟩:=I.base.there b o e (by simp [Zav])
   exact h3.free b o' e1 (I.base.free b o e n (by simp [Zav])) (by simp)
  ·by_cases hb:b∈frs outer
   ·obtain ⟨sl,e1⟩:=frame b o e hb
    exact ⟨_,e1⟩
   ·obtain ⟨o',e1⟩:=thB b o e hb
    exact ⟨o',hfl.1.1 b o' e1⟩
  ·obtain ⟨m1,e1⟩:=I.base.tbls b ps e
   obtain ⟨m2,e2⟩:=h3.tbls b _ e1
   exact ⟨m1++m2,by rw [e2,Array.append_assoc]⟩
 ·have hfr:(A.deeper (envOfC qual scope s.heap.objs.size f cdv)).frames=some (envOfC qual scope s.heap.objs.size f cdv::outer):=I.ok.frames
  have hin:∀env∈(envOfC qual scope s.heap.objs.size f cdv::outer),∀b,env.frame=some b->b∈frs (envOfC qual scope s.heap.objs.size f cdv::outer):=fun env he b hb=>Zqy he hb
  have hfun:s1.heap.FunFrames (hideAll s1.heap (frs (envOfC qual scope s.heap.objs.size f cdv::outer))) (envOfC qual scope s.heap.objs.size f cdv::outer):=PySem.W.funFrames_hide I.stack hin
  refine Zgs hfr rfl (fun b o e=>of_hideAll _ e) hfun hm fun h2 t hfl htup ht hup=>?_
  have nL:∀b o,s.heap.get? b=some o->b≠s.heap.objs.size:=fun b o e=>Nat.ne_of_lt (Heap.lt_size e)
  have notf:∀b o,s.heap.get? b=some o->b∉frs outer->b∉frs (envOfC qual scope s.heap.objs.size f cdv::outer):=fun b o e hb z=>by
   rcases mem_cons.mp (I.stkSub b z) with z|z
   ·exact nL b o e z
   ·exact hb z
  have toB:∀b o,s1.heap.get? b=some o->b∉frs (envOfC qual scope s.heap.objs.size f cdv::outer)->(hideAll s1.heap (frs (envOfC qual scope s.heap.objs.size f cdv::outer))).get? b=some o:=fun b o e hb=>hideAll_get _ e hb
  have inB:∀b o,s.heap.get? b=some o->H b=none->b∉frs outer->(hideAll s1.heap (frs (envOfC qual scope s.heap.objs.size f cdv::outer))).get? b=some o:=fun b o e n hb=>toB b o (I.base.keep b o e n hb (by simp [Zav])) (notf b o e hb)
  have thB:∀b o,s.heap.get? b=some o->b∉frs outer->∃o',(hideAll s1.heap (frs (envOfC qual scope s.heap.objs.size f cdv::outer))).get? b=some o':=fun b o e hb=>by
   obtain ⟨o1,e1⟩:=I.base.there b o e (by simp [Zav])
   exact ⟨o1,toB b o1 e1 (notf b o e hb)⟩
  have frame:∀b o,s.heap.get? b=some o->b∈frs outer->∃sl,h2.get? b=some {o with slots:=sl}:=fun b o e hb=>by
   have n:H b=none:=I.ok.frf b hb
   obtain ⟨sl,e1⟩:=I.base.slot b o e n hb (by simp [Zav])
   have hd:∀vs,o.data≠ .fields vs:=by
    obtain ⟨_,o',ho',hd'⟩:=I.ok.funs.mem hb
    have ho':s.heap.get? b=some o':=ho'
    rw [e] at ho'
    cases ho'
    exact hd'
   obtain ⟨sl3,e3⟩:=hup b _ (hm.keeps b _ e1) hd
   exact ⟨sl3,e3⟩
  have hokB:HOk P w H1 (hideAll s1.heap (frs (envOfC qual scope s.heap.objs.size f cdv::outer))):=fun b o e=>by
   refine (I.hok b o e).stay (fun d u hd z=>toB d u z fun y=>?_) (fun _ z=>z) fun _ _ z=>z
   have:=I.stkFree d y
   rcases hd with rfl|hd
   ·rw [e] at this;cases this
   ·rw [hd] at this;cases this
  refine ⟨a,C,.ref t,_,H1,rfl,I.os,I.bare,⟨fun b o e n hb _=>hfl.1.1 b o (inB b o e n hb),fun b o e n hb _=>frame b o e hb,fun b o e n _=>I.base.free b o e n (by simp [Zav]),fun b o e _=>?_,I.base.tups,I.base.frzs,I.base.tbls⟩,hokB,inB,thB,hfl,hE⟩
  by_cases hb:b∈frs outer
  ·obtain ⟨sl,e1⟩:=frame b o e hb
   exact ⟨_,e1⟩
  ·obtain ⟨o',e1⟩:=thB b o e hb
   exact ⟨o',hfl.1.1 b o' e1⟩
end
abbrev VE:List Value:=[.type "ValueError",.type "Exception",.type "BaseException",.type "object"]
def Zan (K:PySem.W.Frag) (C:Addr):List Value:=match K.lookup C with
 |some ⟨_,_,.cls cd,_⟩=>cd.mro
 |_=>[]
def ExC (K:PySem.W.Frag) (C:Addr):Prop:=excIn K C VE "ValueError.__new__"=true
theorem ZgN {K:PySem.W.Frag} {h:Heap} {C:Addr} (X:K.In h) (q:ExC K C):∃bm N nm qn bs hdct sn sub ab col dd k0 k1 k2 k3 k5 mN,h.get? C=some (excClassObj nm qn C N bs bm hdct sn sub ab col dd k0 k1 k2 k3 k5 "ValueError.__new__")/\h.Ns N mN/\mN "__init__"=none/\OwnTail h VE bm/\Zan K C=.ref C::bm:=by
 unfold ExC excIn at q
 split at q
 ·rename_i dd cd sl ho
  split at q
  ·rename_i C' bm k0 k1 k2 k3 n k5 hm hs
   simp only [Bool.and_eq_true,beq_iff_eq,Bool.not_eq_true'] at q
   obtain ⟨⟨⟨⟨⟨rfl,rfl⟩,hdel⟩,ht⟩,hok⟩,hni⟩:=q
   obtain ⟨nm,bs,mro,ns,qn,hd,sn,sub,ab,col,del⟩:=cd
   dsimp only at hm hdel hok hni
   subst hm hdel
   have hsl:sl=#[k0,k1,k2,k3,some (.builtin "ValueError.__new__"),k5]:=by
    obtain ⟨l⟩:=sl
    simp only at hs
    rw [hs]
   subst hsl
   exact ⟨bm,ns,nm,qn,bs,hd,sn,sub,ab,col,dd,k0,k1,k2,k3,k5,_,X _ _ ho,.of_isNs (PySem.W.isNs_of_in X hok),PySem.W.nsMap_none_of_in X hok hni,PySem.W.tail_of_in X ht,by unfold Zan;rw [ho]⟩
  ·cases q
 ·cases q
section
variable {X:Cx} {F:St->XK} {x:Str} {C:Addr} {e:Expr} {es:List Expr} {t:TA} {np cpos pos:Pos}
def JJ (F:St->XK) (C:Addr) (t:TA):TS:=fun _ σ H=>t σ H fun vs H1=>vs.length<=1000/\F σ (.ref C) none H1
theorem YT (T:TkN X F) (hc:X.calm=true) (q:ExC X.K C) (hg:Gl X x) (hm:X.mg x=some (.ref C)) (ha:PA X (e::es) t) (hdb:(x==("__debug__":Str))=false:=by decide)
 (he:starEach (e::es) X.env=(false,eval e X.env)::starEach es X.env:=by rfl) (hpl:(backTo cpos (starEach es X.env)).any (·.1)=false:=by rfl):PS X (.Raise (some (.Call (.Name x np) (e::es) [] cpos)) none pos) (JJ F C t):=by
 intro Za s σ H D I h
 obtain ⟨bm,N,nm,qn,bs,hdct,sn,sub,ab,col,dd,k0,k1,k2,k3,k5,mN,hC,hN,hni,TL,_⟩:=ZgN I.mod.kin q
 refine wpAny_Raise_call_subT (C:=C) (nm:=nm) (q:=qn) (N:=N) (bs:=bs) (bm:=bm) (hdct:=hdct) (sn:=sn) (sub:=sub) (ab:=ab) (col:=col) (dd:=dd) (k0:=k0) (k1:=k1) (k2:=k2) (k3:=k3) (k5:=k5) PySem.F.excBase_ValueError (mN:=mN) (TL.hasType PySem.F.excBase_ValueError.hasBase) (I.ok.hd hc) ?_ hni ?_
 ·rw [he]
  show (false || (backTo cpos (starEach es X.env)).any (·.1))=false
  rw [hpl]
  rfl
 ·refine Zbq I hg hm ⟨rfl,?_⟩ hdb
  have hp:=ha cpos Za s σ H _ I h
  rw [he] at hp ⊢
  have hsl:sizeLine=16777216:=sizeLine_eq
  refine Calls.evalArgs_plain (thn hp fun us s2 ⟨vs,H2,I2,rv,hl,hf⟩=>⟨rfl,?_,I2.bk _ _ hC,hN.keeps I2.bk,TL.keeps I2.bk,fun h' a hm=>T.new Za σ H2 s2 h' a C us I2 hm hf⟩)
  have:=rv.length
  show us.length<=sizeLine
  omega
end
section
variable {X:Cx} {pos:Pos}
def PJ (X:Cx) (es:List Expr) (t:List Nat->St->Hp->(List Nat->Hp->Prop)->Prop):Prop:=
 ∀(Za:List (Addr×Obj)) (s:Shared) (σ:St) (H:Hp) (acc:List Nat) (Q:List Nat->Hp->Prop),Inv X Za σ H s->t acc σ H Q->
  wpAny (model X.prog X.w) X.A (joinParts (T acc) (evalEach es X.env)) (EP X Za σ fun v H'=>∃l,v=.str (T l)/\Q l H') X.xe s
theorem Zof:PJ X [] (fun acc _ H Q=>acc.length<=sizeLine/\Q acc H):=by
 intro Za s σ H acc Q I h
 exact joinParts_nil ⟨.str (T acc),H,I.tok _,⟨_,rfl⟩,acc,rfl,h.2⟩ (by rw [Zjk];exact h.1)
def Zii (te:TE) (t:List Nat->St->Hp->(List Nat->Hp->Prop)->Prop):List Nat->St->Hp->(List Nat->Hp->Prop)->Prop:=fun acc σ H Q=>te σ H fun v H1=>match v with
 | .str z=>acc.length+(L z).length<=sizeLine/\t (acc++L z) σ H1 Q
 |_=>False
theorem ZcK {e:Expr} {es:List Expr} {te:TE} {t:List Nat->St->Hp->(List Nat->Hp->Prop)->Prop} (h1:PE X e te) (h2:PJ X es t) (hev:evalEach (e::es) X.env=eval e X.env::evalEach es X.env:=by rfl):PJ X (e::es) (Zii te t):=by
 intro Za s σ H acc Q I h
 rw [hev]
 refine joinParts_cons (thn (h1 Za s σ H _ I h) fun u s1 ⟨v,H1,I1,r,q⟩=>?_)
 cases v with
 |str z=>
  obtain ⟨tk,rfl⟩:=r
  have e:=ZhE acc (L z)
  rw [T_L] at e
  refine ⟨?_,?_⟩
  ·show (T acc++z).length<=sizeLine
   rw [e,Zjk,length_append]
   exact q.1
  ·rw [e]
   exact h2 Za s1 σ H1 _ Q I1 q.2
 |_=>exact False.elim q
def ZlM (t:List Nat->St->Hp->(List Nat->Hp->Prop)->Prop):TE:=fun σ H Q=>t [] σ H fun l H'=>Q (.str (T l)) H'
theorem Zkh {e1 e2:Expr} {es:List Expr} {t:List Nat->St->Hp->(List Nat->Hp->Prop)->Prop} (h:PJ X (e1::e2::es) t) (hev:evalEach (e1::e2::es) X.env=eval e1 X.env::eval e2 X.env::evalEach es X.env:=by rfl):PE X (.JoinedStr (e1::e2::es) pos) (ZlM t):=by
 intro Za s σ H Q I q
 refine JoinedStr_many ?_
 have:=h Za s σ H [] _ I q
 rw [hev] at this
 refine thn this fun u s1 ⟨v,H1,I1,r,l,e,q⟩=>?_
 subst e
 exact ⟨_,H1,I1,r,q⟩
def ZJ (i:Int):List Nat:=L (toString i:Str)
def ZvT (te:TE):TE:=fun σ H Q=>te σ H fun v H1=>match v with
 | .str z=>(L z).length<=sizeLine/\Q (.str z) H1
 | .int i=>i.natAbs.log2<1920/\Q (.str (T (ZJ i))) H1
 |_=>False
theorem Zie {e:Expr} {te:TE} (h:PE X e te):PE X (.FormattedValue e (-1) none pos) (ZvT te):=by
 intro Za s σ H Q I q
 refine FormattedValue_plain (thn (h Za s σ H _ I q) fun u s1 ⟨v,H1,I1,r,q⟩=>?_)
 cases v with
 |str z=>
  obtain ⟨tk,rfl⟩:=r
  exact formatField_str (fun t' tk=>⟨.str z,H1,I1.tok _,⟨_,rfl⟩,q.2⟩) (by rw [<-Z8];exact q.1)
 |int i=>
  obtain ⟨tk,rfl⟩:=r
  have e:T (ZJ i)=(toString i:Str):=T_L _
  have q:i.natAbs.log2<1920/\Q (V.str (T (ZJ i))) H1:=q
  rw [e] at q
  exact formatField_int_small q.1 ⟨.str (toString i),H1,I1.tok _,⟨_,rfl⟩,q.2⟩
 |_=>exact False.elim q
end
structure FnX (P:Program) (w:World) (K:PySem.W.Frag) (mg:Str->Option Value) (base:Heap) (k:Nat) (x:Str) (ps:List Str) (sp:Sp):Prop where
 ex:∃f fd,Z4 P w K mg base (CX1 P w) k f fd ps sp/\mg x=some (.ref f)/\keepIn K (.ref f)=true/\J8 K fd ps []
section
variable {P:Program} {w:World} {K:PySem.W.Frag} {mg:Str->Option Value} {base:Heap}
theorem Fun.okX {x qual:Str} {st:Stmt} {f:Addr} {fd:FuncData} {N ps:List Str} {k:Nat} {sp:Sp} (F:Fun K x qual st f fd) (S:ZA N ps (Zk st)) (len:∀vs H Q E,sp vs H Q E->vs.length=ps.length)
 (hbody:∀(cdv:Value) (A:Around) (outer:List Env) (s:Shared) (H:Hp) (vs:List V) (Q:VK) (E:XK),YD k (A.deeper (envOfC qual (Zk st) s.heap.objs.size f cdv))->sp vs H Q E->
  ∃t,PSs (Zav (CX1 P w) P w K mg base N qual (Zk st) f cdv A outer s H E) (Zy st) t/\t {nx:=fun _ H'=>Q .non H',rt:=Q} (ZR N vs) H):Z4 P w K mg base (CX1 P w) (k+1) f fd ps sp:=by
 obtain ⟨oc,od,kV,doc,pm,an,cdv,ct,osl,rfl,lk,hcd⟩:=F.ex
 exact Zjq lk hcd S len fun A outer s H vs Q E hr hsp=>hbody cdv A outer s H vs Q E hr hsp
end
section
variable {X:Cx} {F:St->XK} {k:Nat} {x:Str} {ps:List Str} {sp:Sp} {p pos:Pos} {e:Expr} {es:List Expr} {t:TA}
def Zcd (F:St->XK) (sp:Sp) (t:TA):TE:=fun σ H Q=>t σ H fun vs H1=>sp vs H1 Q (F σ)
theorem qh (T:Tk X F) (G:FnX X.prog X.w X.K X.mg X.base k x ps sp) (hr:YD k X.A) (ha:PA X (e::es) t) (hg:Gl X x:=by rfl) (hdb:(x==("__debug__":Str))=false:=by decide)
 (he:starEach (e::es) X.env=(false,eval e X.env)::starEach es X.env:=by rfl) (hpl:(backTo pos (starEach es X.env)).any (·.1)=false:=by rfl):PE X (.Call (.Name x p) (e::es) [] pos) (Zcd F sp t):=by
 obtain ⟨f,fd,G,hm,hk,hb⟩:=G.ex
 intro Za s σ H Q I h
 refine wpAny_Call_Name_kw (Zbq I hg hm ?_ hdb)
 refine callWith_K (h₀:=X.base) I.ok.mod.kin hk (thn (ha pos Za s σ H _ I h) fun us s1 ⟨vs,H1,I1,r,q⟩=>⟨I1.kIn,?_⟩) he hpl
 have hl:us.length=ps.length:=by rw [<-r.length];exact G.len _ _ _ _ q
 refine wpAny_call (codeAny_mono (G.run X.A X.stack s1 H1 ⟨us,[]⟩ us vs Q (F σ) hr I1.env0 (by simpa using hb s1 us I1.kIn (by simpa using hl)) r q) fun r s' hq=>?_)
 cases r with
 |error e=>exact T.pass Za σ H1 s1 e s' I1 hq
 |ok fl=>
  cases fl with
  |ret u=>exact I1.after hq
  |next=>exact False.elim hq
  |brk=>exact False.elim hq
  |cont=>exact False.elim hq
end
structure Zds (X:Cx) (Za:List (Addr×Obj)) (σ:St) (H1:Hp) (s1:Shared) (a C:Addr) (a0:Value) (B:Heap) (H:Hp) (s2:Shared):Prop where
 inv1:Inv X Za σ H1 s1
 os:s2.os=s1.os
 bare:AllBare s2.gens
 un:Un (frs X.stack) [] H1 H s1.heap s2.heap
 hokB:HOk X.prog X.w H B
 keepB:∀b o,s1.heap.get? b=some o->H1 b=none->b∉frs X.stack->B.get? b=some o
 thB:∀b o,s1.heap.get? b=some o->b∉frs X.stack->∃o',B.get? b=some o'
def Zh7 (a C:Addr):HO:=.ext fun h=>∃o vs,h.get? a=some o/\o.cls=.ref C/\o.data=.fields vs/\vs[2]?=some .none
section
variable {X:Cx} {Za:List (Addr×Obj)} {σ:St} {H1 H:Hp} {s1 s2:Shared} {a C:Addr} {a0:Value} {B h:Heap}
theorem Zds.inv (c:Zds X Za σ H1 s1 a C a0 B H s2) (hfl:Zd3 B X.stack a (.ref C) a0 h) (hup:s2.heap.UpToSlots h):Inv X Za σ H {s2 with heap:=h}:=by
 have I:=c.inv1
 have fr:∀b o,s1.heap.get? b=some o->b∈frs X.stack->∃sl,h.get? b=some {o with slots:=sl}:=fun b o e hb=>by
  obtain ⟨sl,e1⟩:=c.un.any e (I.stkFree b hb) (by simp)
  have hd:∀vs,o.data≠ .fields vs:=by
   obtain ⟨_,o',ho',hd'⟩:=I.stack.mem hb
   rw [e] at ho'
   cases ho'
   exact hd'
  obtain ⟨sl2,e2⟩:=hup b _ e1 hd
  exact ⟨sl2,e2⟩
 refine I.call' (s':= {s2 with heap:=h}) (ch:=[]) c.os ⟨fun b o e n hb _=>hfl.1.1 b o (c.keepB b o e n hb),fun b o e n hb _=>fr b o e hb,c.un.free,fun b o e _=>?_,c.un.tups,c.un.frzs,c.un.tbls⟩ (c.hokB.kept hfl.1.1) c.bare fun b z=>absurd z (by simp)
 by_cases hb:b∈frs X.stack
 ·obtain ⟨sl,e1⟩:=fr b o e hb
  exact ⟨_,e1⟩
 ·obtain ⟨o',e1⟩:=c.thB b o e hb
  exact ⟨o',hfl.1.1 b o' e1⟩
theorem Inv.trackG {s:Shared} (I:Inv X Za σ H s) {D:Addr} {o:HO} (n0:X.s₀.heap.get? D=none) (free:H D=none) (nl:D≠X.env.locals) (hc:∀x c,X.env.cells.lookup x=some c->c≠D) (np:∀p∈X.pn++Za,p.1≠D) (new:zD X.prog X.w (upd H D o) s.heap D o):Inv X Za σ (upd H D o) s:=by
 have ne:∀b u,H b=some u->b≠D:=fun b u e=>Zq e free
 refine ⟨I.ok,I.os,I.bare,⟨I.base.keep,I.base.slot,fun b u e n hx=>?_,I.base.there,fun b xs e=>?_,fun b u v e=>?_,fun b ps e=>?_⟩,I.loc,I.cell,?_,fun x c e=>?_,fun p hp=>?_,fun b u e=>?_,I.len⟩
 ·have hb:b≠D:=by
   rintro rfl
   rw [n0] at e
   cases e
  rw [Zn hb]
  exact I.base.free b u e n hx
 ·have:=I.base.tups b xs e
  rw [Zn (ne b _ this)]
  exact this
 ·have:=I.base.frzs b u v e
  rw [Zn (ne b _ this)]
  exact this
 ·obtain ⟨m,z⟩:=I.base.tbls b ps e
  exact ⟨m,by rw [Zn (ne b _ z)];exact z⟩
 ·rw [Zn (Ne.symm nl)]
  exact I.free
 ·rw [Zn (hc x c e)]
  exact I.freeC x c e
 ·obtain ⟨a1,a2,a3⟩:=I.pin p hp
  exact ⟨a1,by rw [Zn (np p hp)];exact a2,a3⟩
 ·by_cases hb:b=D
  ·subst hb
   rw [Zj] at e
   cases e
   exact new
  ·rw [Zn hb] at e
   refine (I.hok b u e).stay (fun _ _ _ z=>z) (fun d z=>?_) fun d xs z=>?_
   ·rw [Zn (ne d _ z)];exact z
   ·rw [Zn (ne d _ z)];exact z
theorem Zds.held (hex:X.ex=[]) (c:Zds X Za σ H1 s1 a C a0 B H s2) (hfl:Zd3 B X.stack a (.ref C) a0 h) (hup:s2.heap.UpToSlots h):H a=none/\Inv X Za σ (upd H a (Zh7 a C)) {s2 with heap:=h}:=by
 have I:=c.inv hfl hup
 obtain ⟨oe,vs,T,oT,ts,g1,⟨g2,_⟩,g3,_⟩:=hfl.1.2.2.2
 have g4:vs[2]?=some Value.none:=by
  obtain ⟨o2,vs2,k1,k2,k3⟩:=hfl.2
  rw [g1] at k1
  cases k1
  rw [g3] at k2
  cases k2
  exact k3
 have hBa:B.get? a=none:=hfl.1.2.1
 have hHa:H a=none:=by
  cases q:H a with
  |none=>rfl
  |some o=>
   have ok:=c.hokB a o q
   have l:=ok.lt
   have ex:∃o',B.get? a=some o':=by
    cases o with
    |lst xs=>obtain ⟨_,_,_,_,e⟩:=ok;exact ⟨_,e⟩
    |tup xs=>obtain ⟨_,_,_,o',e,_⟩:=ok;exact ⟨_,e⟩
    |dK kvs=>obtain ⟨_,_,_,_,o',_,_,e,_⟩:=ok;exact ⟨_,e⟩
    |dT kvs=>exact False.elim ok
    |set S n=>obtain ⟨o',_,_,_,e,_⟩:=ok;exact ⟨_,e⟩
    |ins C dx fs=>obtain ⟨_,_,_,e,_⟩:=ok;exact ⟨_,e⟩
    |own y=>exact ok
    |xd fs=>obtain ⟨_,⟨_,_,_,e,_⟩,_⟩:=ok;exact ⟨_,e⟩
    |rng lo hi=>obtain ⟨_,_,_,e⟩:=ok;exact ⟨_,e⟩
    |frz ob u=>obtain ⟨e,_⟩:=ok;exact ⟨_,e⟩
    |tbl ps=>exact ⟨_,show B.get? a=some _ from ok⟩
    |met f y=>exact ⟨_,show B.get? a=some _ from ok⟩
    |ext φ=>obtain ⟨_,e,_⟩:=ok;exact e
   obtain ⟨o',e⟩:=ex
   rw [hBa] at e
   cases e
 have nstk:a∉frs X.stack:=fun hb=>by
  obtain ⟨_,o',ho',hd'⟩:=hfl.1.2.2.1.mem hb
  rw [g1] at ho'
  cases ho'
  exact hd' vs g3
 have ns1:s1.heap.get? a=none:=by
  cases q:s1.heap.get? a with
  |none=>rfl
  |some o=>
   obtain ⟨o',e⟩:=c.thB a o q nstk
   rw [hBa] at e
   cases e
 have ns0:X.s₀.heap.get? a=none:=by
  cases q:X.s₀.heap.get? a with
  |none=>rfl
  |some o=>
   obtain ⟨o',e⟩:=c.inv1.base.there a o q (by rw [hex];simp)
   rw [ns1] at e
   cases e
 refine ⟨hHa,I.trackG ns0 hHa (fun z=>?_) (I.cellne g1 fun v z=>by rw [g3] at z;cases z) (fun p hp z=>?_) ⟨⟨oe,vs,g1,g2,g3,g4⟩,⟨oe,g1⟩,fun h1 h2 ⟨o,ws,e1,e2,e3⟩ k=>⟨o,ws,k o e1,e2,e3⟩⟩⟩
 ·obtain ⟨m,⟨o,es,ep,ho,hd,_⟩,_⟩:=I.loc
  have ho:h.get? X.env.locals=some o:=ho
  rw [<-z,g1] at ho
  cases ho
  rw [g3] at hd
  cases hd
 ·have:=(c.inv1.pin p hp).1
  rw [z,ns1] at this
  cases this
end
def cxH (X:Cx) (a:Addr) (E:Value->Shared->Prop):Cx:= {X with A:=X.A.mark (some (.ref a)),calm:=false,xe:=E}
section
variable {X:Cx} {Za:List (Addr×Obj)} {σ:St} {H:Hp} {s:Shared} {a:Addr} {E:Value->Shared->Prop}
theorem Inv.marked (I:Inv X Za σ H s) (a:Addr) (E:Value->Shared->Prop):Inv (cxH X a E) Za σ H s:=
 ⟨⟨I.ok.mod,I.ok.kind,I.ok.glob,I.ok.blt,I.ok.above,I.ok.inj,I.ok.has,I.ok.cab,fun z=>absurd (show false=true from z) Bool.false_ne_true,I.ok.frames,I.ok.stk,I.ok.exf,I.ok.bs,I.ok.bsz,I.ok.noex,I.ok.exfs,I.ok.funs,I.ok.frf⟩,I.os,I.bare,I.base,I.loc,I.cell,I.free,I.freeC,I.pin,I.hok,I.len⟩
theorem Inv.unmarked (hd:X.calm=true->X.A.handled=none) (I:Inv (cxH X a E) Za σ H s):Inv X Za σ H s:=
 ⟨⟨I.ok.mod,I.ok.kind,I.ok.glob,I.ok.blt,I.ok.above,I.ok.inj,I.ok.has,I.ok.cab,hd,I.ok.frames,I.ok.stk,I.ok.exf,I.ok.bs,I.ok.bsz,I.ok.noex,I.ok.exfs,I.ok.funs,I.ok.frf⟩,I.os,I.bare,I.base,I.loc,I.cell,I.free,I.freeC,I.pin,I.hok,I.len⟩
theorem Zg6 {M:Model} {A:Around} {E:Value->Shared->Prop} {K:PySem.W.Frag} {C C0 e:Addr} {oe:Obj} {Q:Bool->Shared->Prop} (KX:K.In s.heap) (hC:ExC K C) (hC0:ExC K C0) (he:s.heap.get? e=some oe) (hcls:oe.cls=.ref C) (hq:Q ((Zan K C).contains (.ref C0)) s):wpAny M A (excMatches (.ref e) (.ref C0)) Q E s:=by
 obtain ⟨bm,N,nm,qn,bs,hdct,sn,sub,ab,col,dd,k0,k1,k2,k3,k5,mN,g,_,_,TL,em⟩:=ZgN KX hC
 obtain ⟨bm0,N0,nm0,qn0,bs0,hdct0,sn0,sub0,ab0,col0,dd0,k00,k10,k20,k30,k50,mN0,g0,_,_,TL0,em0⟩:=ZgN KX hC0
 have hb0:(Value.ref C0::bm0).contains (.type "BaseException")=true:=by
  rw [List.contains_cons,TL0.hasType PySem.F.excBase_ValueError.hasBase,Bool.or_true]
 rw [em] at hq
 obtain ⟨hp,gn,d,tk,os⟩:=s
 unfold excMatches
 have nt:=tc_notTuple
 repeat (first
  |(with_reducible refine wpAny_loadPart_at he ?_
    rw [hcls])
  |with_reducible refine wpAny_loadPart_at g0 ?_
  |(with_reducible refine wpAny_isSubtype_exc g0 ?_
    rw [hb0])
  |with_reducible refine wpAny_isSubtype_exc g ?_
  |wp_step)
 cases hz:(Value.ref C::bm).contains (Value.ref C0)
 all_goals (rw [hz] at hq;wp_walk;exact hq)
end
def PHs (X:Cx) (hs:List ExceptHandler) (th:Zbw->St->XK):Prop:=
 ∀(Za:List (Addr×Obj)) (σ:St) (H1:Hp) (s1:Shared) (a C:Addr) (a0:Value) (B:Heap) (H:Hp) (s2:Shared) (h:Heap) (D:Zbw),Zds X Za σ H1 s1 a C a0 B H s2->Zd3 B X.stack a (.ref C) a0 h->s2.heap.UpToSlots h->th D σ (.ref C) none H->
  wpAny (model X.prog X.w) X.A (handleBy (.ref a) X.env hs) (SP X Za D) X.xe {s2 with heap:=h}
section
variable {X:Cx} {x n:Str} {C0:Addr} {i:Nat} {np pos:Pos} {b₀:Stmt} {suite:List Stmt} {qP:List ExceptHandler} {ts:TS} {th:Zbw->St->XK}
theorem Ztp:PHs X [] (fun _ _ _ _ _=>False):=fun _ _ _ _ _ _ _ _ _ _ _ _ _ _ _ z=>z.elim
theorem SP.unmarked {X:Cx} {Za:List (Addr×Obj)} {a:Addr} {E:Value->Shared->Prop} {D:Zbw} {f:Flow} {s':Shared} (hd:X.calm=true->X.A.handled=none) (h:SP (cxH X a E) Za D f s'):SP X Za D f s':=by
 cases f with
 |next=>obtain ⟨σ',H',I,q⟩:=h;exact ⟨σ',H',I.unmarked hd,q⟩
 |brk=>obtain ⟨σ',H',I,q⟩:=h;exact ⟨σ',H',I.unmarked hd,q⟩
 |cont=>obtain ⟨σ',H',I,q⟩:=h;exact ⟨σ',H',I.unmarked hd,q⟩
 |ret u=>obtain ⟨v,σ',H',I,r,q⟩:=h;exact ⟨v,σ',H',I.unmarked hd,r,q⟩
def unb (i:Nat) (D:Zbw):Zbw:= {nx:=fun σ H=>D.nx (σ.set i none) H,rt:=D.rt,bk:=fun σ H=>D.bk (σ.set i none) H,ct:=fun σ H=>D.ct (σ.set i none) H}
def tH1 (K:PySem.W.Frag) (C0:Addr) (i:Nat) (ts:TS) (th:Zbw->St->XK):Zbw->St->XK:=fun D σ cls d H=>match cls with
 | .ref C=>ExC K C/\if (Zan K C).contains (.ref C0)=true then ∀a,H a=none->ts (unb i D) (σ.set i (some (.ref a))) (upd H a (Zh7 a C)) else th D σ (.ref C) d H
 |_=>False
theorem Zed {Za:List (Addr×Obj)} {σ:St} {H:Hp} {s:Shared} {M:Model} {A:Around} {E:Value->Shared->Prop} {Q:Unit->Shared->Prop} (I:Inv X Za σ H s) (hN:X.N.Nodup) (hi:X.N[i]?=some n) (hk:X.env.kindOf n=some .local)
 (h:∀s',Inv X Za (σ.set i none) H s'->Q () s'):wpAny M A (do bindName X.env n .none;unbindBehindTheSuite X.env n pos) Q E s:=by
 obtain ⟨m,hn,hl⟩:=id I.loc
 refine wpAny_nameGoes_keeps hk hn (by rw [I.ok.kind];rfl) fun h' v hn' hs=>h _ ?_
 have hiσ:i<σ.length:=by rw [I.len];exact (List.getElem?_eq_some_iff.mp hi).1
 obtain ⟨oL,es,ep,hoL,hdL,_⟩:=id hn
 refine ⟨I.ok,I.os,I.bare,⟨fun b o e nn hb hx=>?_,fun b o e nn hb hx=>?_,I.base.free,fun b o e hx=>?_,I.base.tups,I.base.frzs,I.base.tbls⟩,⟨_,hn',fun j y v' e1 e2 e3=>?_⟩,fun y c e=>?_,I.free,I.freeC,fun p hp=>?_,fun b ob e=>?_,by simpa using I.len⟩
 ·exact (hs.2 b (Nat.ne_of_lt (Nat.lt_of_lt_of_le (Heap.lt_size e) I.ok.above))).trans (I.base.keep b o e nn hb hx)
 ·obtain ⟨sl,e1⟩:=I.base.slot b o e nn hb hx
  exact ⟨sl,(hs.2 b (Nat.ne_of_lt (Nat.lt_of_lt_of_le (Heap.lt_size e) I.ok.above))).trans e1⟩
 ·obtain ⟨o',e1⟩:=I.base.there b o e hx
  exact ⟨o',(hs.2 b (Nat.ne_of_lt (Nat.lt_of_lt_of_le (Heap.lt_size e) I.ok.above))).trans e1⟩
 ·have hj:j≠i:=by
   rintro rfl
   rw [List.getElem?_set_self hiσ] at e2
   cases e2
  rw [List.getElem?_set_ne (Ne.symm hj)] at e2
  obtain ⟨u',r',q⟩:=hl j y v' e1 e2 e3
  refine ⟨u',r',?_⟩
  rcases q with ⟨k,e⟩|⟨k,c,e,z⟩
  ·refine .inl ⟨k,?_⟩
   have:y≠n:=fun e=>hj (Zes hN e1 (e▸hi))
   simp [this,e]
  ·exact .inr ⟨k,c,e,z.sameBut hs (I.cne y c e)⟩
 ·obtain ⟨w',z⟩:=I.cell y c e
  exact ⟨w',z.sameBut hs (I.cne y c e)⟩
 ·obtain ⟨e,nn,ne,nf,d⟩:=I.pin p hp
  exact ⟨(hs.2 p.1 ne).trans e,nn,ne,nf,d⟩
 ·refine (I.hok b ob e).stay (fun c w' hc z=>(hs.2 c ?_).trans z) (fun _ z=>z) fun _ _ z=>z
  rintro rfl
  rcases hc with z|hc
  ·have:=I.free
   rw [z,e] at this
   cases this
  ·rw [I.free] at hc
   cases hc
theorem Zmd (hex:X.ex=[]) (hC0:ExC X.K C0) (hg:Gl X x) (hm:X.mg x=some (.ref C0)) (hN:X.N.Nodup) (hi:X.N[i]?=some n) (hk:X.env.kindOf n=some .local) (hb:∀a,PSs (cxH X a (fun _ _=>False)) (b₀::suite) ts) (hr:PHs X qP th) (hdb:(x==("__debug__":Str))=false:=by decide):
 PHs X (.ExceptHandler (some (.Name x np)) (some n) (b₀::suite) pos::qP) (tH1 X.K C0 i ts th):=by
 intro Za σ H1 s1 a C a0 B H s2 h D c hfl hup q
 have I:=c.inv hfl hup
 have hd:X.calm=true->X.A.handled=none:=c.inv1.ok.hd
 obtain ⟨hC,q⟩:=q
 obtain ⟨ob,hob,hobc⟩:=hfl.1.there
 refine wpAny_handleBy_cons (codeAny_handlers_test (Zbq (X:=cxH X a (notedBy (model X.prog X.w) (X.A.mark (some (.ref a))) X.env (cameBackBy (model X.prog X.w) X.A X.env X.xe))) (I.marked a _) hg hm ?_ hdb)) (by intro z;cases z)
 refine Zg6 (s:= {s2 with heap:=h}) I.kIn hC hC0 hob hobc ?_
 cases e:(Zan X.K C).contains (.ref C0) with
 |true=>
  rw [e] at q
  refine codeAny_handlers_suite_as (ZgV hfl fun h3 hfl3 hup3=>?_)
  obtain ⟨ha,I3⟩:=c.held hex hfl3 (hup.trans hup3)
  refine ZbM I3 hN hi (.inl hk) (show Z2 (.ref a) (.ref a) from rfl) (fun s4 I4=>?_) (.inr hk)
  refine wpAny_mono (hb a Za _ _ _ _ (I4.marked a _) (q a ha)) (fun f s' z=>?_) fun _ _ z=>False.elim z
  have z:=z.unmarked hd
  cases f with
  |next=>obtain ⟨σ',H',J,w'⟩:=z;exact Zed J hN hi hk fun s5 J5=>⟨_,H',J5,w'⟩
  |brk=>obtain ⟨σ',H',J,w'⟩:=z;exact Zed J hN hi hk fun s5 J5=>⟨_,H',J5,w'⟩
  |cont=>obtain ⟨σ',H',J,w'⟩:=z;exact Zed J hN hi hk fun s5 J5=>⟨_,H',J5,w'⟩
  |ret u=>obtain ⟨v,σ',H',J,r,w'⟩:=z;exact Zed J hN hi hk fun s5 J5=>⟨v,_,H',J5,r,w'⟩
 |false=>
  rw [e] at q
  exact hr Za σ H1 s1 a C a0 B H s2 h D c hfl hup q
def ZzO (tb:(St->XK)->TS) (th:Zbw->St->XK) (te:TS):TS:=fun D σ H=>tb (fun σ'=>th D σ') {nx:=fun σ' H'=>te D σ' H',rt:=D.rt,bk:=D.bk,ct:=D.ct} σ H
abbrev Cx.wishP (X:Cx) (pn:List (Addr×Obj)) (E:Value->Shared->Prop):Cx:= {X with pn:=pn,xe:=E}
theorem Inv.wishP {Za:List (Addr×Obj)} {σ:St} {H:Hp} {s:Shared} (I:Inv X Za σ H s) (E:Value->Shared->Prop):Inv (X.wishP (X.pn++Za) E) [] σ H s:=
 ⟨⟨I.ok.mod,I.ok.kind,I.ok.glob,I.ok.blt,I.ok.above,I.ok.inj,I.ok.has,I.ok.cab,I.ok.hd,I.ok.frames,I.ok.stk,I.ok.exf,I.ok.bs,I.ok.bsz,I.ok.noex,I.ok.exfs,I.ok.funs,I.ok.frf⟩,I.os,I.bare,I.base,I.loc,I.cell,I.free,I.freeC,fun p hp=>I.pin p (by simpa using hp),I.hok,I.len⟩
theorem Inv.unwishP {Za ps:List (Addr×Obj)} {σ:St} {H:Hp} {s:Shared} {E:Value->Shared->Prop} (I:Inv (X.wishP (X.pn++Za) E) ps σ H s):Inv X Za σ H s:=
 ⟨⟨I.ok.mod,I.ok.kind,I.ok.glob,I.ok.blt,I.ok.above,I.ok.inj,I.ok.has,I.ok.cab,I.ok.hd,I.ok.frames,I.ok.stk,I.ok.exf,I.ok.bs,I.ok.bsz,I.ok.noex,I.ok.exfs,I.ok.funs,I.ok.frf⟩,I.os,I.bare,I.base,I.loc,I.cell,I.free,I.freeC,fun p hp=>I.pin p (mem_append_left _ hp),I.hok,I.len⟩
theorem ZuQ {body orelse:List Stmt} {h₀:ExceptHandler} {hs:List ExceptHandler} {tb:(St->XK)->TS} {te:TS} (hst:X.stack=X.env::X.outer) (hf:X.env.frame=some X.env.locals) (hb:∀pn E F,Tk (X.wishP pn E) F->PSs (X.wishP pn E) body (tb F)) (hh:PHs X (h₀::hs) th) (he:PSs X orelse te):
 PS X (.Try body (h₀::hs) orelse [] pos) (ZzO tb th te):=by
 intro Za s σ H D I q
 refine wpAny_Try_except ?_
 have hfr:X.A.frames=some (X.env::X.outer):=by rw [<-hst];exact I.ok.frames
 have tk:Tk (X.wishP (X.pn++Za) (fun e s₁=>wpAny (model X.prog X.w) X.A (noteFrame e X.env) (fun _ s₂=>wpAny (model X.prog X.w) X.A (setFlight e none) (fun _ s₃=>wpAny (model X.prog X.w) X.A (handleBy e X.env (h₀::hs)) (SP X Za D) X.xe s₃) X.xe s₂) X.xe s₁)) (fun σ'=>th D σ'):=by
  refine ⟨fun ps σ' H1 s1 e s2 I1 hx=>?_,PassesOwn.looking⟩
  obtain ⟨a,C,a0,B,H',rfl,h1,h2,h3,h4,h5,h5',h6,h7⟩:=hx
  have c:Zds X Za σ' H1 s1 a C a0 B H' s2:=⟨I1.unwishP,h1,h2,h3,h4,h5,h5'⟩
  have h6:Zd3 B (X.env::X.outer) a (.ref C) a0 s2.heap:=by rw [<-hst];exact h6
  refine Zkt hfr hf h6 fun h4' hheld hup4=>ZsD hheld fun h5' hfl5 hup5=>?_
  refine hh Za σ' H1 s1 a C a0 B H' s2 h5' D c ?_ (hup4.trans hup5) h7
  rw [hst]
  exact hfl5
 refine wpAny_mono (hb _ _ _ tk [] s σ H _ (I.wishP _) q) (fun f s1 z=>?_) fun e s1 z=>z
 cases f with
 |next=>obtain ⟨σ',H',J,w'⟩:=z;exact he Za s1 σ' H' D J.unwishP w'
 |brk=>obtain ⟨σ',H',J,w'⟩:=z;exact ⟨σ',H',J.unwishP,w'⟩
 |cont=>obtain ⟨σ',H',J,w'⟩:=z;exact ⟨σ',H',J.unwishP,w'⟩
 |ret u=>obtain ⟨v,σ',H',J,r,w'⟩:=z;exact ⟨v,σ',H',J.unwishP,r,w'⟩
end
open PySem.Calls PySem.Builtin PySem.Builtin.ObjectAttr PySem.Builtin.Getset_descriptor
structure Zcg (K:PySem.W.Frag) (C:Addr):Prop where
 ga:findIn K (.ref C) "__getattribute__"=some (some (.builtin "BaseException.__getattribute__"))
 gh:findIn K (.ref C) "__getattr__"=some none
 cl:findIn K (.ref C) "__class__"=some (some (.builtin "object.__class__"))
 gt:specialIn K (.builtin "object.__class__") "__get__"=some (some (.builtin "getset_descriptor.__get__"))
 tk:takesIn K (.builtin "object.__class__")=some true
 mo:mroIn K C (.type "object")=some true
 mb:mroIn K C (.type "BaseException")=some true
theorem Zcg.is {K:PySem.W.Frag} {C:Addr} (G:Zcg K C):(clsIn K C).isSome=true:=by
 have h:=G.mo
 unfold mroIn at h
 cases q:clsIn K C with
 |some _=>rfl
 |none=>rw [q] at h;cases h
theorem Zik {K:PySem.W.Frag} {C:Addr} {v:Value} {b:Bool} (h:mroIn K C v=some b):(Zan K C).contains v=b:=by
 unfold mroIn clsIn at h
 unfold Zan
 split at h
 ·rename_i e
  rw [e]
  dsimp only [Option.bind_some] at h ⊢
  split at h
  ·cases h
  ·exact Option.some.inj h
 ·cases h
section
variable {prog:Program} {w:World} {A:Around} {E:Value->Shared->Prop} {s:Shared} {K:PySem.W.Frag} {a C:Addr} {oe:Obj}
theorem Zeu {M:Model} {h:Heap} (he:h.get? a=some oe) (hc:oe.cls=.ref C):PySem.W.Looks M h (typeOf (.ref a)) (.ref C):=by
 rw [<-hc]
 exact (PySem.W.Looks.ld he).andThen .now
theorem ZoB {M:Model} {h:Heap} (KX:K.In h) (G:Zcg K C):PySem.W.Looks M h (find (.ref a) (.ref C) "__class__") (.bind (.builtin "getset_descriptor.__get__") (.builtin "object.__class__")):=by
 have l1:=looks_findIn (M:=M) KX G.cl
 have l2:=PySem.W.looks_specialIn (M:=M) KX G.gt
 have l3:=PySem.W.looks_takesIn (M:=M) KX G.tk
 refine l1.andThen (PySem.W.Looks.andThen (show PySem.W.Looks M h (getOf (some (.builtin "object.__class__"))) _ from l2) (PySem.W.Looks.andThen (a:=some (.builtin "getset_descriptor.__get__",.builtin "object.__class__")) (l3.andThen .now) ?_))
 exact PySem.W.Looks.tag .now
theorem Zp5 {R:Result->Shared->Prop} {tp:Value} (KX:K.In s.heap) (G:Zcg K C) (he:s.heap.get? a=some oe) (hc:oe.cls=.ref C)
 (h:R (.ok (.ret (.ref C))) s):codeAny (model prog w) A (.call (.builtin "getset_descriptor.__get__") ⟨[.builtin "object.__class__",.ref a,tp],[]⟩) R s:=by
 obtain ⟨hp,gn,dr,tk,os⟩:=s
 have l0:=Zeu (M:=model prog w) he hc
 have l1:=looks_mroIn (M:=model prog w) KX G.mo
 refine codeAny_call_builtin PySem.W.KF.slot_gs.plain PySem.W.KF.entry_gs (PySem.W.KF.slot_gs.check _ _ _ _ _ _ _ _ PySem.W.KF.type_class (PySem.W.KF.args_gs _ _ _) ?_)
 unfold Builtin.«getset_descriptor.__get__» descrGet
 rw [PySem.W.dga_obj]
 refine wpAny_bind (wpAny_pure ?_)
 unfold descrGetter descrCheckInstance descrNameAndClass isInstance
 simp only [PySem.W.KF.owner_class]
 repeat lk
 refine ⟨Code.quiet_builtin _ (by decide +kernel),codeAny_builtin PySem.W.KF.entry_class ?_⟩
 unfold Builtin.«object.__class__» shownTypeOf
 repeat lk
 exact h
theorem Zlk {M:Model} {v:Value} {Q:Unit->Shared->Prop} (KX:K.In s.heap) (G:Zcg K C) (he:s.heap.get? a=some oe) (hc:oe.cls=.ref C) (h:Q () s):
 wpAny M A (checkBuiltinCall "BaseException.__getattribute__" ⟨[.ref a,v],[]⟩) Q E s:=by
 obtain ⟨hp,gn,dr,tk,os⟩:=s
 have k1:builtinKind "BaseException.__getattribute__"=some .slot:=by decide +kernel
 have k2:splitId "BaseException.__getattribute__"=some ("BaseException","__getattribute__"):=by decide +kernel
 have ha:=PySem.F.args_bexc_ga (.ref a) v
 have l0:=Zeu (M:=M) he hc
 have l1:=looks_mroIn (M:=M) KX G.mb
 simp only [checkBuiltinCall,k1,k2]
 refine wpAny_bind ?_
 unfold isInstance
 refine (PySem.W.Looks.andThen l0 l1).at ?_
 repeat (first|assumption|wp_step)
theorem ZqA {tk:Tok} {Q:Value->Shared->Prop} (KX:K.In s.heap) (G:Zcg K C) (he:s.heap.get? a=some oe) (hc:oe.cls=.ref C) (h:Q (.ref C) s):
 wpAny (model prog w) A (call (.builtin "BaseException.__getattribute__") [.ref a,.str "__class__" tk]) Q E s:=by
 have l0:=Zeu (M:=model prog w) he hc
 have l1:=ZoB (M:=model prog w) (a:=a) KX G
 refine wpAny_call (codeAny_call_builtin PySem.F.excAttr_ValueError.ga.plain PySem.F.entry_bexc_ga (Zlk KX G he hc ?_))
 unfold Builtin.«object.__getattribute__»
 refine wpAny_bind (wpAny_pure (wpAny_bind (wpAny_pure (wpAny_bind (l0.at (wpAny_bind (l1.at ?_)))))))
 show wpAny _ _ (bindTo (.builtin "getset_descriptor.__get__") (.builtin "object.__class__") (.ref a) (.ref C)) _ _ s
 show wpAny _ _ (holding [Value.builtin "object.__class__"] (call (.builtin "getset_descriptor.__get__") [.builtin "object.__class__",.ref a,.ref C]) >>=ret) _ _ s
 exact wpAny_bind (wpAny_holding (wpAny_call (Zp5 KX G he hc (wpAny_pure h))))
theorem Zn4 (self:Value):bindSpecial (.builtin "BaseException.__getattribute__") self=pure (.builtin "BaseException.__getattribute__",[self]):=PySem.F.excAttr_ValueError.ga.bind self
theorem ZtF {Q:Option Value->Shared->Prop} (KX:K.In s.heap) (G:Zcg K C) (he:s.heap.get? a=some oe) (hc:oe.cls=.ref C) (h:Q (some (.ref C)) {s with toks:=s.toks+1}):
 wpAny (model prog w) A (getAttr? (.ref a) "__class__") Q E s:=by
 obtain ⟨hp,gn,dr,tk,os⟩:=s
 have l0:=Zeu (M:=model prog w) he hc
 have l1:=looks_findIn (M:=model prog w) KX G.ga
 have l2:=looks_findIn (M:=model prog w) KX G.gh
 unfold getAttr? getAttrBy? getAttrBy
 refine wpAny_bind (wpAny_mkText (wpAny_bind (wpAny_attempt (wpAny_holding (wpAny_bind (l0.at (wpAny_bind (l1.at ?_))))))))
 show wpAny _ _ (getAttrByItsOwn (.ref a) _ (.ref C) (.builtin "BaseException.__getattribute__") false false) _ _ _
 unfold getAttrByItsOwn
 refine wpAny_bind (l2.at (wpAny_bind (wpAny_attempt (wpAny_holding ?_))))
 show wpAny _ _ (boundAndCalled (.builtin "BaseException.__getattribute__") (.ref a) _) _ _ _
 unfold boundAndCalled
 rw [Zn4]
 refine wpAny_bind (wpAny_pure ?_)
 refine ZqA (s:=⟨hp,gn,dr,tk+1,os⟩) KX G he hc ?_
 exact PySem.W.handed_on rfl (wpAny_pure h)
theorem Zhz (G:Zcg K C):KitX K (.ref a) (.ref C) (fun h=>∃o vs,h.get? a=some o/\o.cls=.ref C/\o.data=.fields vs) where
 ty:=fun _ _ _ p=>by
  obtain ⟨o,_,h1,h2,_⟩:=p
  exact Zeu h1 h2
 it:=fun M h KX _=>by
  have q:=G.is
  unfold clsIn at q
  split at q
  ·rename_i ho
   intro A' Q' E' s' k z
   unfold isType loadHead
   exact wpAny_bind (wpAny_loadPart (k _ _ (KX _ _ ho)) (wpAny_pure z))
  ·cases q
 ne:=fun h tp dd its n sl KX e=>by
  have q:=G.is
  unfold clsIn at q
  split at q
  ·rename_i ho
   cases z:(Value.ref C==Value.ref tp) with
   |false=>rfl
   |true=>
    cases Value.ref.inj (eq_of_beq z)
    have:=(KX _ _ ho).symm.trans e
    cases this
  ·cases q
 ca:=fun KX p k=>by
  obtain ⟨o,_,h1,h2,_⟩:=p
  exact ZtF KX G h1 h2 k
end
section
variable {X:Cx} {Za:List (Addr×Obj)} {σ:St} {H:Hp} {s:Shared} {a C:Addr} {c:Value} {b:Bool}
theorem Zkq {A:Around} {E:Value->Shared->Prop} {Q:Value->Shared->Prop} (I:Inv X Za σ H s) (G:Zcg X.K C) (e:H a=some (Zh7 a C)) (q:kitOne X.K (.ref C) c=some b) (h:∀tk,Q (.bool b) {s with toks:=tk}):
 wpAny (model X.prog X.w) A (call (.builtin "isinstance") [.ref a,c]) Q E s:=by
 obtain ⟨⟨o0,v0,z1,z2,z3,_⟩,_,_⟩:=I.hok a _ e
 have z:∃o vs,s.heap.get? a=some o/\o.cls=.ref C/\o.data=.fields vs:=⟨o0,v0,z1,z2,z3⟩
 exact kia_one (Zhz G) I.kIn z q (fun z=>nomatch z) h
theorem ZnZ {A:Around} {E:Value->Shared->Prop} {Q:Value->Shared->Prop} {p:Addr} {cs:List Value} (I:Inv X Za σ H s) (G:Zcg X.K C) (e:H a=some (Zh7 a C)) (ht:IsTup s.heap p cs.toArray) (q:kitAny X.K (.ref C) cs=some b) (h:∀tk,Q (.bool b) {s with toks:=tk}):
 wpAny (model X.prog X.w) A (call (.builtin "isinstance") [.ref a,.ref p]) Q E s:=by
 obtain ⟨⟨o0,v0,z1,z2,z3,_⟩,_,_⟩:=I.hok a _ e
 have z:∃o vs,s.heap.get? a=some o/\o.cls=.ref C/\o.data=.fields vs:=⟨o0,v0,z1,z2,z3⟩
 obtain ⟨o,h1,h2,n,h3⟩:=ht
 obtain ⟨oc,od,oda,osl⟩:=o
 dsimp only at h2 h3
 subst h2 h3
 exact PySem.W.kia_tup (Zhz G) I.kIn z h1 q (fun z=>nomatch z) h
theorem ZfF:∀{ds:List Addr} {us:List Value},ZD (ds.map V.ref) us->us=ds.map Value.ref
 |[],_,r=>by cases r;rfl
 |d::ds,_,r=>by
  cases r with
  |cons r1 r2=>
   cases r1
   rw [ZfF r2]
   rfl
def ZqB (K:PySem.W.Frag):List V->Hp->VK->Prop:=fun xs H Q=>match xs with
 |[.ref a,.ty n]=>∃C b,H a=some (Zh7 a C)/\Zcg K C/\kitOne K (.ref C) (.type n)=some b/\Q (.bl b) H
 |[.ref a,.ref c]=>∃C b,H a=some (Zh7 a C)/\Zcg K C/\Q (.bl b) H/\(kitOne K (.ref C) (.ref c)=some b\/∃ds:List Addr,SqT K H c (ds.map V.ref)/\kitAny K (.ref C) (ds.map Value.ref)=some b)
 |_=>False
theorem ZzJ:Jc X (.builtin "isinstance") (ZqB X.K):=by
 intro Za s σ H xs us Q I r h
 unfold ZqB at h
 split at h
 ·rename_i a n
  obtain ⟨C,b,e,G,q,h⟩:=h
  obtain ⟨u,w',rfl,ru,rw'⟩:=ZdL r
  cases ru
  cases rw'
  exact Zkq I G e q fun tk=>ZV (I.tok tk) h rfl
 ·rename_i a c
  obtain ⟨C,b,e,G,h,q⟩:=h
  obtain ⟨u,w',rfl,ru,rw'⟩:=ZdL r
  cases ru
  cases rw'
  rcases q with q|⟨ds,ht,q⟩
  ·exact Zkq I G e q fun tk=>ZV (I.tok tk) h rfl
  ·obtain ⟨its,rv,t,_⟩:=I.tuple ht
   have:=ZfF rv
   subst this
   exact ZnZ I G e t q fun tk=>ZV (I.tok tk) h rfl
 ·exact h.elim
theorem Zfn {K:PySem.W.Frag} (h:X.K=K):Jc X (.builtin "isinstance") (ZqB K):=h▸ZzJ
end
section
variable {X:Cx}
def ZBm {α:Type} (xs:List α) (k:Nat) (y:α):List α:=xs.take k++y::xs.drop k
theorem Ze1:∀{ns:List Int} {us:List Value},ZD (ns.map V.int) us->IntsAre us ns
 |[],_,r=>by cases r;exact .nil
 |n::ns,_,r=>by
  cases r with
  |cons r1 r2=>
   obtain ⟨t,rfl⟩:=r1
   exact .cons n t (Ze1 r2)
theorem ZeM {k:Int}:∀{vs:List Value} {ns:List Int},IntsAre vs ns->∀(m:Nat) (hm:m<vs.length),isInt k vs[m]=decide (ns.getD m 0=k)
 |_,_,.nil,m,hm=>absurd hm (Nat.not_lt_zero _)
 |_,_,.cons n t h,0,hm=>by
  show isInt k (.int n t)=decide (n=k)
  unfold isInt
  by_cases q:n=k
  ·simp [q]
  ·simp [q]
 |_,_,.cons n t h,m+1,hm=>ZeM h m (Nat.lt_of_succ_lt_succ hm)
def ZxA (K:PySem.W.Frag):V->List V->Hp->VK->Prop:=fun x vs H Q=>∃l,∃ns:List Int,x=.ref l/\SqL K H l (ns.map V.int)/\match vs with
 |[.int k]=>k∈ns/\Q (.int (ns.idxOf k)) H
 |_=>False
theorem Zjo {K:PySem.W.Frag} (hK:X.K=K):MtM X "list.index" (ZxA K):=by
 subst hK
 intro Za s σ H x vs v us Q I rx rv h
 obtain ⟨l,ns,rfl,hq,h⟩:=h
 cases rx
 split at h
 ·rename_i k
  obtain ⟨hk,h⟩:=h
  obtain ⟨u,rfl,ru⟩:=rv.one
  obtain ⟨t,rfl⟩:=ru
  obtain ⟨its,r,p,hz⟩:=I.list hq
  have hi:=Ze1 r
  have hl:=r.length
  rw [length_map] at hl hz
  have hj:=List.idxOf_lt_length_of_mem hk
  obtain ⟨⟨oc,od,oda,osl⟩,ho,hc,n,hd⟩:=p.isList
  dsimp only at hc hd
  subst hc hd
  have hsz:=sizeLine_eq
  refine call_meets F.slot_list_index ⟨_,ho,rfl⟩ F.entry_list_index (F.args_list_index_2 _ _) (SeqAt.list_indexAt l its.toArray n od osl (.int k t) (isInt k) (ns.idxOf k) (by rw [size_toArray];omega) (by omega) ?_ fun m hm hlt=>?_)
   ⟨ho,fun y hy=>(eq_isInt k t hi y (by simpa using hy)).at _ _,.int (ns.idxOf k),H,I.tok _,⟨_,rfl⟩,h⟩
  ·show isInt k its[ns.idxOf k]=true
   rw [ZeM hi _ (by omega)]
   simp [List.getD_eq_getElem?_getD,hj]
  ·have hm':m<its.length:=by simpa using hm
   show isInt k its[m]=false
   rw [ZeM hi _ hm']
   have:m<ns.length:=by omega
   have hne:=List.not_of_lt_findIdx hlt
   simp [List.getD_eq_getElem?_getD,this]
   simpa using hne
 ·exact h.elim
theorem Zlz {K:PySem.W.Frag} (hK:X.K=K) (hc:X.calm=true):Jc X (.type "list") (Zjf K):=hK▸ZqO hc
end
theorem Zfo:bootBuiltins "ValueError"=some (.type "ValueError"):=by decide +kernel
end L2
namespace LP
open PySem L2
def Zq1 (ns:List Int):Prop:=∀k:Nat,k<ns.length->ns.count (k:Int)=1
instance (ns:List Int):Decidable (Zq1 ns):=inferInstanceAs (Decidable (∀k:Nat,k<ns.length->ns.count (k:Int)=1))
def ZBy (ns:List Int) (k:Nat):List V:=(List.range ns.length).map fun v:Nat=>if (v:Int)∈ns.take k then V.int (ns.idxOf (v:Int)) else V.non
def ZxG (ns:List Int) (k:Nat):Prop:=(ns.take k).Nodup/\∀x∈ns.take k,0<=x/\x<ns.length
theorem Zdf {H:Hp} {a b:Addr} {o:HO} (h:upd H a o b=none):H b=none/\b≠a:=by
 by_cases e:b=a
 ·subst e;rw [Zj] at h;cases h
 ·rw [Zn e] at h;exact ⟨h,e⟩
theorem ZhT {H H':Hp} {p:Addr} {o:HO} (sm:Zw H H') (hn:H p=none):Zw H (upd H' p o):=fun b u q=>by
 have:b≠p:=by rintro rfl;rw [hn] at q;cases q
 rw [Zn this]
 exact sm b u q
end LP
namespace L2
open PySem PySem.Spec PyProof.Rows
theorem ZS.src {K:PySem.W.Frag} {H H':Hp} {a:Addr} {xs:List V} (e:ZS H H') (h:Src K H a xs):Src K H' a xs:=by
 rcases h with h|h|⟨lo,hi,h,r⟩
 ·exact .inl (e.seq h)
 ·rcases h with (h|⟨o,h⟩)|h
  ·exact .inr (.inl (.inl (.inl (e.at h (by nofun)))))
  ·exact .inr (.inl (.inl (.inr ⟨o,e.at h (by nofun)⟩)))
  ·exact .inr (.inl (.inr h))
 ·exact .inr (.inr ⟨lo,hi,e.at h (by nofun),r⟩)
section
variable {X:Cx} {c P:Addr} {params:Arguments} {body:Expr} {scope:Scope} {cl:List (Str×Addr)} {cp:List (Str×Nat)} {x:Str} {q:Str} {e:Expr} {ta:TA} {te:TE} {np lp kp pos:Pos}
def Zgy (K:PySem.W.Frag) (P:Addr) (lp:Pos) (q:Str) (cp:List (Str×Nat)) (ta:TA) (te:TE):TE:=fun σ H Q=>ta σ H fun vs H1=>match vs with
 |[.ref a]=>∃(xs:List V) (kL:List (List Nat)),Src K H1 a xs/\xs.length<64/\kL.length=xs.length/\Bk P lp q H1/\(∀H2 i y,ZS H1 H2->xs[i]?=some y->te (Zfy y cp σ) H2 fun k H'=>H'=H2/\k=.str (T (kL.getD i [])))/\
    ∀H2 l (p:List Nat),ZS H1 H2->Yq P H1 H2->Bk P lp q H2->H2 l=none->p.Perm (List.range xs.length)->p.Pairwise (fun i j=>kL.getD i []<=kL.getD j []/\(kL.getD i []=kL.getD j []->i<j))->Q (.ref l) (upd H2 l (.lst (p.map fun i=>xs.getD i .non)))
 |_=>False
theorem ZeU {K:PySem.W.Frag} (hK:X.K=K) (hc:X.calm=true) (hr:YD 2 X.A) (L:Zji X c P) (hgl:Gl X "sorted") (hm:X.mg "sorted"=none) (hcl:Ja scope.names X.env.cells []=some cl) (hdef:defaultsOf params X.env=([],[])) (hq:X.env.qual++"<lambda>"=q)
 (hk:scope.kind=.function) (hnc:∀y∈scope.names,y.2≠ .cell) (hcp:Zam X scope cp) (hx:scope.names.lookup x=some .local) (hnx:x∉cp.map (·.1)) (hco:scope.isCoroutine=false) (hgen:scope.isGenerator=false)
 (hb:∀(pm:Value) (c':Value) (ctv u:Value),bindArgs (kla_fn "<lambda>" q params body scope cl pm c' ctv) ⟨[u],[]⟩=pure [(x,u)]) (ha:PA X [e] ta)
 (he:∀A L f c' s H,PE (cxL X A (newEnv scope L mainGlobals cl (q++".<locals>.") (some f) (.ref c') none builtinsNs) (x::cp.map (·.1)) s H) body te)
 (hs:starEach [e] X.env=[(false,eval e X.env)]:=by rfl):PE X (.Call (.Name "sorted" np) [e] [⟨some "key",.Lambda params body scope lp,kp⟩] pos) (Zgy K P lp q cp ta te):=by
 subst hK
 intro Za s σ H Q I h
 refine wpAny_Call_Name_kw (Zbo I hgl hm Zf5 (callWith_kw ?_ (by rw [hs];rfl) (by rw [hs];rfl)))
 have hp:=ha pos Za s σ H _ I h
 refine thn hp fun us s1 ⟨vs,H1,I1,rv,h1⟩=>?_
 dsimp only at h1
 split at h1
 ·rename_i a
  obtain ⟨xs,kL,hsrc,h64,hlen,bk,hkey,hfin⟩:=h1
  obtain ⟨u,rfl,ru⟩:=rv.one
  cases ru
  refine kws_cons (ZlS (body:=body) I1 L hcl hdef bk hq fun f c' pm ctv H2 s2 I2 hc' bk2 sm se=>kws_nil ?_)
  show wpAny _ X.A (call (.builtin "sorted") [.ref a] [(Str.ofString "key",.ref f)]) _ _ s2
  refine thn (ZkP (Q:=fun v H'=>Q v H') hc (hr.mono (by decide)) I2 (sm.src hsrc) h64 hlen (fun ps s3 i y k w' I3 hy hk3 rw'=>?_) fun l p hl pm' pw=>hfin H2 l p sm se bk2 hl pm' pw) fun v s3 z=>?_
  ·have hd:X.A.in1.in1.depth<recursionLimit:=by have:=hr.dp;show X.A.depth<_;omega
   have ho:s3.heap.get? f=some (kla_obj "<lambda>" q params body scope cl pm c' ctv):=(I3.pin (f,_) (mem_append_right _ (mem_append_left _ (mem_append_right _ (mem_singleton.mpr rfl))))).1
   have hrec:s3.heap.CodeRec (.ref c') q:=(I3.hok c' _ hc').1
   refine Zma (X:=X) (x:=x) (cp:=cp) I3 (show X.A.frames=some X.stack from I3.ok.frames) (show X.A.handled=none from I3.ok.hd hc) hd hcl hk hnc hcp hx hnx hco hgen ho hrec (fun u=>hb pm (.ref c') ctv u) rw' he ?_
   have hi:i<kL.length:=by
    have:=(List.getElem?_eq_some_iff.mp hy).1
    omega
   have ek:k=.str (T (kL.getD i [])):=by
    rw [List.getElem?_map,List.getElem?_eq_getElem hi] at hk3
    rw [List.getD_eq_getElem?_getD,List.getElem?_eq_getElem hi]
    exact (Option.some.inj hk3).symm
   rw [ek]
   exact hkey H2 i y sm hy
  ·obtain ⟨v',H3,I3,r3,q3⟩:=z
   exact ⟨v',H3,I3.unpinned,r3,q3⟩
 ·exact h1.elim
end
structure Lm (mg:Str->Option Value) (base:Heap) (c P:Addr):Prop where
 hd:CodeHd base c P
 bm:∃bm ob,mg "__builtins__"=some (.ref bm)/\bm≠builtinsNs/\base.get? bm=some ob/\ob.cls=.type "module"/\ob.dict=some builtinsNs/\ob.data=.plain
theorem Lm.at {X:Cx} {c P:Addr} (L:Lm X.mg X.base c P) (h:X.env.code=.ref c):Zji X c P:=⟨h,L.hd,L.bm⟩
section
variable {P:Program} {w:World} {K:PySem.W.Frag} {mg:Str->Option Value} {base:Heap}
theorem Fun.okL {x qual:Str} {st:Stmt} {f c:Addr} {fd:FuncData} {N ps:List Str} {k:Nat} {sp:Sp} (F:Fun K x qual st f fd) (hc:fd.code=.ref c) (S:ZA N ps (Zk st)) (len:∀vs H Q E,sp vs H Q E->vs.length=ps.length)
 (hbody:∀(A:Around) (outer:List Env) (s:Shared) (H:Hp) (vs:List V) (Q:VK) (E:XK),YD k (A.deeper (envOfC qual (Zk st) s.heap.objs.size f (.ref c)))->sp vs H Q E->
  ∃t,PSs (Zav CX0 P w K mg base N qual (Zk st) f (.ref c) A outer s H E).nox (Zy st) t/\t {nx:=fun _ H'=>Q .non H',rt:=Q} (ZR N vs) H):Z4 P w K mg base CX0 (k+1) f fd ps sp:=by
 obtain ⟨oc,od,kV,doc,pm,an,cdv,ct,osl,rfl,lk,hcd⟩:=F.ex
 have hc:cdv=.ref c:=hc
 subst hc
 refine Zjq lk hcd S len fun A outer s H vs Q E hr hsp=>?_
 obtain ⟨t,h,q⟩:=hbody A outer s H vs Q E hr hsp
 exact ⟨t,h.nox,q⟩
end
abbrev ZyM (mg:Str->Option Value) (base:Heap):Prop:=∃bm ob,mg "__builtins__"=some (.ref bm)/\bm≠builtinsNs/\base.get? bm=some ob/\ob.cls=.type "module"/\ob.dict=some builtinsNs/\ob.data=.plain
theorem ZkS {P:Program} {w:World} {K:PySem.W.Frag} {mg mb:Str->Option Value} {CX:CXT} {k:Nat} {fa a:Addr} {fd:FuncData} {x:Str} {sp:Sp} {s₁:Shared} {vs:List Value} {ns:List Int} {ts:List Addr}
 (KX:K.In s₁.heap) (hns:s₁.heap.Ns mainGlobals mg) (hb:s₁.heap.Ns builtinsNs mb) (hbb:∀x:Str,x≠"__name__"->mb x=bootBuiltins x) (hlim:s₁.heap.NoLimit) (hg:s₁.gens=#[])
 (hbm:∃bm ob,mg "__builtins__"=some (.ref bm)/\bm≠builtinsNs/\s₁.heap.get? bm=some ob/\ob.cls=.type "module"/\ob.dict=some builtinsNs/\ob.data=.plain)
 (ha:s₁.heap.get? a=some {cls:=.type "list",data:=.seq vs.toArray}) (hi:IntsAre vs ns) (hl:ns.length<=sizeLine) (hr:YD k callerA)
 (hts:∀p∈ts,s₁.heap.get? p=some (tabObj #[])/\K.lookup p=none/\∃c,CodeHd s₁.heap c p)
 (F:∀base:Heap,K.In base->base.Ns mainGlobals mg->(∃bm ob,mg "__builtins__"=some (.ref bm)/\bm≠builtinsNs/\base.get? bm=some ob/\ob.cls=.type "module"/\ob.dict=some builtinsNs/\ob.data=.plain)->Z4 P w K mg base CX k fa fd [x] sp)
 (hbind:∀(s:Shared) (u:Value),BindsTo s fd ⟨[u],[]⟩ [(x,u)])
 (hsp:∀H:Hp,SqL K H a (ns.map V.int)->(∀p∈ts,H p=some (.tbl #[]))->sp [.ref a] H (fun v _=>v=.bl true) fun _ _ _=>False)
 (hCX:∀H e s',CX [] H s₁ (fun _ _ _=>False) e s'->False):
 codeAny (model P w) callerA (.call (.ref fa) ⟨[.ref a],[]⟩) (fun r s'=>r=.ok (.ret (.bool true))/\OldK s₁.heap s'.heap/\s'.os=s₁.os/\AllBare s'.gens) s₁:=by
 have rv:=ZfU hi
 have Jz:=hi.length
 have core:∀H:Hp,(∀b,H b=none\/(b=a/\∃o xs,H b=some (.frz o (.lst xs)))\/(b∈ts/\H b=some (.tbl #[])))->(∀p∈ts,H p=some (.tbl #[]))->SqL K H a (ns.map V.int)->HOk P w H s₁.heap->(∀b,H b≠none->K.lookup b=none)->
  codeAny (model P w) callerA (.call (.ref fa) ⟨[.ref a],[]⟩) (fun r s'=>r=.ok (.ret (.bool true))/\OldK s₁.heap s'.heap/\s'.os=s₁.os/\AllBare s'.gens) s₁:=by
  intro H hO hT hS hok hK
  have dat:∀b u,s₁.heap.get? b=some u->H b=none\/(∃its n,u.data=.seq its n)\/∃fs,u.data=.fields fs:=fun b u e=>by
   rcases hO b with z|⟨rfl,_⟩|⟨z,_⟩
   ·exact .inl z
   ·rw [ha] at e;cases e;exact .inr (.inl ⟨_,_,rfl⟩)
   ·rw [(hts b z).1] at e;cases e;exact .inr (.inr ⟨_,rfl⟩)
  have inB:∀{b:Addr} {o:Obj},s₁.heap.get? b=some o->H b=none->(Zfq s₁.heap H).get? b=some o:=fun e n=>Zmz e n
  have nsB:∀{b:Addr} {m:Str->Option Value},s₁.heap.Ns b m->(Zfq s₁.heap H).Ns b m:=fun {b m} ⟨o,es,ep,e,d,r⟩=>⟨o,es,ep,inB e (by
   rcases dat b o e with z|⟨_,_,z⟩|⟨_,z⟩
   ·exact z
   ·rw [d] at z;cases z
   ·rw [d] at z;cases z),d,r⟩
  have hKb:K.In (Zfq s₁.heap H):=fun b o e=>inB (KX b o e) (by
   cases q:H b with
   |none=>rfl
   |some u=>rw [hK b (by rw [q];simp)] at e;cases e)
  have hM:Mod K mg (Zfq s₁.heap H):=⟨hKb,nsB hns,⟨mb,nsB hb,hbb⟩,let ⟨mc,h1,h2⟩:=hlim;⟨mc,nsB h1,h2⟩⟩
  have e0:ZgC P w K mg (Zfq s₁.heap H) callerA [] s₁ H:=⟨rfl,hM,fun b o e=>ZpR e,Nat.le_of_eq (Zlr _ _),trivial,fun b hb=>absurd (show b∈([]:List Addr) from hb) (by simp),hok,.of_eq hg⟩
  have hbmB:∃bm ob,mg "__builtins__"=some (.ref bm)/\bm≠builtinsNs/\(Zfq s₁.heap H).get? bm=some ob/\ob.cls=.type "module"/\ob.dict=some builtinsNs/\ob.data=.plain:=by
   obtain ⟨bm,ob,b1,b2,b3,b4,b5,b6⟩:=hbm
   refine ⟨bm,ob,b1,b2,inB b3 ?_,b4,b5,b6⟩
   rcases dat bm ob b3 with z|⟨_,_,z⟩|⟨_,z⟩
   ·exact z
   ·rw [b6] at z;cases z
   ·rw [b6] at z;cases z
  refine codeAny_mono ((F _ hKb (nsB hns) hbmB).run callerA [] s₁ H ⟨[.ref a],[]⟩ [.ref a] [.ref a] _ _ hr e0 (hbind s₁ (.ref a)) (.cons rfl .nil) (hsp H hS hT)) fun r s' h=>?_
  cases r with
  |error e=>exact (hCX H e s' h).elim
  |ok fl=>
   cases fl with
   |next=>exact False.elim h
   |brk=>exact False.elim h
   |cont=>exact False.elim h
   |ret u=>
    obtain ⟨v,H',os,bare,un,hok',r',q⟩:=h
    have q':v=.bl true:=q
    subst q'
    obtain rfl:u=Value.bool true:=r'
    have old:∀b o,s₁.heap.get? b=some o->s'.heap.get? b=some o\/∃more,b∈ts/\s'.heap.get? b=some (tabObj more):=fun b o e=>by
     rcases hO b with z|⟨_,ob,xs,z⟩|⟨zt,z⟩
     ·exact .inl (un.keep b o e z (by intro y;exact absurd (show b∈([]:List Addr) from y) (by simp)) (by simp))
     ·have z2:=un.frzs b ob _ z
      obtain ⟨e1,_⟩:=hok b _ z
      obtain ⟨e2,_⟩:=hok' b _ z2
      rw [e] at e1;cases e1
      exact .inl e2
     ·obtain ⟨more,z2⟩:=un.tbls b _ z
      exact .inr ⟨_,zt,hok' b _ z2⟩
    refine ⟨rfl,⟨fun b o e=>?_,fun b o e=>?_⟩,os,bare⟩
    ·rcases old b o e with z|⟨more,zt,z⟩
     ·exact .inl z
     ·obtain ⟨t1,_,c,t2⟩:=hts b zt
      rw [t1] at e
      cases e
      refine .inr (.inl ⟨(t2.tab t1).isCodeTable,rfl,#[],more,rfl,?_⟩)
      rw [z]
      simp
    ·rcases old b o e with z|⟨more,_,z⟩
     ·exact ⟨_,z⟩
     ·exact ⟨_,z⟩
 have aT:a∉ts:=fun z=>by
  have:=(hts a z).1
  rw [ha] at this
  cases this
 cases hk:K.lookup a with
 |some o=>
  have e:=KX a o hk
  rw [ha] at e
  cases e
  refine core (fun b=>if b∈ts then some (.tbl #[]) else none) (fun b=>?_) (fun p hp=>if_pos hp) (.inr ⟨_,vs.toArray,_,hk,rfl,rfl,rfl,by rw [size_toArray,Jz];exact hl,by simpa using rv⟩) (fun b u z=>?_) fun b z=>?_
  ·by_cases hb:b∈ts
   ·exact .inr (.inr ⟨hb,if_pos hb⟩)
   ·exact .inl (if_neg hb)
  ·by_cases hb:b∈ts
   ·have z':=(if_pos hb).symm.trans z
    cases z'
    exact (hts b hb).1
   ·have z':=(if_neg hb).symm.trans z
    cases z'
  ·by_cases hb:b∈ts
   ·exact (hts b hb).2.1
   ·exact absurd (if_neg hb) z
 |none=>
  refine core (fun b=>if b=a then some (.frz {cls:=.type "list",data:=.seq vs.toArray} (.lst (ns.map V.int))) else if b∈ts then some (.tbl #[]) else none) (fun b=>?_) (fun p hp=>?_) (.inl (.inr ⟨{cls:=.type "list",data:=.seq vs.toArray},if_pos rfl⟩)) (fun b u z=>?_) fun b z=>?_
  ·by_cases hb:b=a
   ·exact .inr (.inl ⟨hb,_,_,if_pos hb⟩)
   ·by_cases hb2:b∈ts
    ·exact .inr (.inr ⟨hb2,(if_neg hb).trans (if_pos hb2)⟩)
    ·exact .inl ((if_neg hb).trans (if_neg hb2))
  ·have:p≠a:=fun z=>aT (z▸hp)
   exact (if_neg this).trans (if_pos hp)
  ·by_cases hb:b=a
   ·have z':=(if_pos hb).symm.trans z
    cases z'
    subst hb
    exact ⟨ha,by rw [length_map];exact hl,vs,_,rv,ha⟩
   ·by_cases hb2:b∈ts
    ·have z':=((if_neg hb).trans (if_pos hb2)).symm.trans z
     cases z'
     exact (hts b hb2).1
    ·have z':=((if_neg hb).trans (if_neg hb2)).symm.trans z
     cases z'
  ·by_cases hb:b=a
   ·rw [hb];exact hk
   ·by_cases hb2:b∈ts
    ·exact (hts b hb2).2.1
    ·exact absurd ((if_neg hb).trans (if_neg hb2)) z
theorem Zmo {l:PySem.W.OpenLaw} {n k:Nat} {q:Program} {loose:List Str} {XP:(Str->Option Value)->Heap->Prop} {YP:World->Heap->Prop} {d:DefRec} {K:Params->PySem.W.Frag} {CX:World->CXT} {sp:World->Sp} {x:Str} {ts:List Addr}
 (hn:l.most=some n) (hn2:n<=sizeLine) (hdf:d.params.defaults=[]) (hr:YD k callerA)
 (hY:∀(w:World) (h:Heap),YP w h->(K w.params).In h/\∀p∈ts,h.get? p=some (tabObj #[]))
 (F:∀(w:World) (mg:Str->Option Value) (fa:Addr) (h:Heap),(K w.params).In h->h.Ns mainGlobals mg->mg d.name=some (.ref fa)->
  (∀p∈ts,(K w.params).lookup p=none/\∃c,codeHdIn (K w.params) c p=true)/\∃fd:FuncData,(∀(s:Shared) (u:Value),BindsTo s fd ⟨[u],[]⟩ [(x,u)])/\
   ∀base:Heap,(K w.params).In base->base.Ns mainGlobals mg->(∃bm ob,mg "__builtins__"=some (.ref bm)/\bm≠builtinsNs/\base.get? bm=some ob/\ob.cls=.type "module"/\ob.dict=some builtinsNs/\ob.data=.plain)->Z4 l.prog w (K w.params) mg base (CX w) k fa fd [x] (sp w))
 (hsp:∀(w:World) (H:Hp) (a:Addr) (ns:List Int),ns.length<=n->SqL (K w.params) H a (ns.map V.int)->(∀p∈ts,H p=some (.tbl #[]))->sp w [.ref a] H (fun v _=>v=.bl true) fun _ _ _=>False)
 (hCX:∀(w:World) (H:Hp) (s:Shared) (e:Value) (s':Shared),CX w [] H s (fun _ _ _=>False) e s'->False):
 PySem.W.WalkO q loose XP YP l.row.toRowW d [] (fun f vs=>PySem.call f vs):=by
 refine Att.ZhJ hn hdf fun w s₀ s₁ mg mb fa o pm cd doc a vs ns G Y ho hd hcd hmg hobj hints hlen hg=>?_
 obtain ⟨KX,TX⟩:=hY w _ Y
 obtain ⟨hT,fd,hb,hF⟩:=F w mg fa _ KX G.T.g hmg
 refine ZkS (ts:=ts) KX G.T.g G.T.b G.T.builtins G.T.nolimit hg G.T.bmain hobj hints (Nat.le_trans hlen hn2) hr (fun p hp=>⟨TX p hp,(hT p hp).1,?_⟩) hF hb (fun H hS hTb=>hsp w H a ns hlen hS hTb) fun H e s'=>hCX w H s₁ e s'
 obtain ⟨c,e⟩:=(hT p hp).2
 exact ⟨c,codeHd_of_K KX e⟩
section
variable {X:Cx} {Za:List (Addr×Obj)} {σ:St} {H:Hp} {s:Shared}
theorem Zqb {xs:List V} {vs:List Value} (rv:ZD xs vs):∀l:List Nat,(∀i∈l,i<vs.length)->ZD (l.map fun i=>xs.getD i .non) (l.map fun i=>vs.getD i Value.none):=by
 intro l
 have lv:=rv.length
 induction l with
 |nil=>intro _;exact .nil
 |cons i r ih=>
  intro hi
  have hi0:=hi i mem_cons_self
  refine .cons ?_ (ih fun j hj=>hi j (mem_cons_of_mem _ hj))
  have hx:xs[i]?=some (xs.getD i .non):=by
   rw [List.getD_eq_getElem?_getD,List.getElem?_eq_getElem (by omega)]
   rfl
  obtain ⟨u,hu,r'⟩:=rv.get hx
  have e:vs.getD i Value.none=u:=by rw [List.getD_eq_getElem?_getD,hu];rfl
  show Z2 (xs.getD i .non) (vs.getD i Value.none)
  rw [e]
  exact r'
theorem ZiT {Q:VK} {E:Value->Shared->Prop} {a:Addr} {κ:SortKind} {O:KeyOrd} (hc:X.calm=true) (hh:X.A.handled=none)
 (hcoll:∀(A:Around) (E:Value->Shared->Prop),A.handled=none->wpAny (model X.prog X.w) A (collect (.ref a)) (fun vs s1=>∃(xs:List V) (key:Nat->O.α),Inv X Za σ H s1/\ZD xs vs/\xs.length<64/\
  (∀s' vs (E:Value->Shared->Prop) (Q':SortKind->Shared->Prop),Inv X Za σ H s'->ZD xs vs->2<=xs.length->Q' κ s'->wpAny (model X.prog X.w) X.A.in1.in1 (keyKind' vs.toArray) Q' E s')/\
  (∀s' vs,Inv X Za σ H s'->ZD xs vs->LS.ZdZ key xs.length (fun t=>t=s') (kas_ask X.prog X.w X.A.in1.in1 κ vs))/\
  ∀l (p:Array Nat),H l=none->LS.Pm xs.length p->LS.Up key p xs.length->Q (.ref l) (upd H l (.lst (p.toList.map fun i=>xs.getD i .non)))) E s):
 wpAny (model X.prog X.w) X.A (call (.builtin "sorted") [.ref a]) (EP X Za σ Q) E s:=by
 have hsl:sizeLine=16777216:=sizeLine_eq
 refine Calls.call_function_entry kind_sorted plain_sorted entry_sorted (args_sorted1 _) ?_
 unfold Builtin.«sorted»
 refine wpAny_bind (m:=checkCount "sorted" 1 1 _) (wpAny_pure ?_)
 refine wpAny_bind (wpAny_mono (hcoll _ _ hh) (fun vs s1 ⟨xs,key,I,rv,h64,hkind,hask,h⟩=>?_) fun _ _ z=>z)
 have lv:=rv.length
 refine wpAny_bind (wpAny_newList ?_ (by omega))
 have k2:∀b o,s1.heap.get? b=some o->(s1.heap.push {cls:=.type "list",data:=.seq vs.toArray}).get? b=some o:=fun b o e=>Heap.get?_push_of_some _ e
 have I2:Inv X Za σ H {s1 with heap:=s1.heap.push {cls:=.type "list",data:=.seq vs.toArray},toks:=s1.toks}:=I.kept k2
 have I1:Inv X Za σ H {s1 with heap:=s1.heap,toks:=s1.toks}:=I
 have Wa:Own X Za H s1.heap.objs.size:=Own.fresh I1 (Nat.le_refl _)
 have ho:(s1.heap.push {cls:=.type "list",data:=.seq vs.toArray}).get? s1.heap.objs.size=some (seqObj "list" vs.toArray 0):=Heap.get?_push_size _ rfl
 refine wpAny_bind (wpAny_holding (wpAny_call_entry slot_list_sort ⟨_,ho,rfl⟩ entry_list_sort ?_ (args_list_sort _)))
 rw [list_sort_plain]
 refine wpAny_bind (listItems_at ho rfl ?_)
 refine wpAny_bind (listUpdate_at ho rfl ?_ (by rw [size_toArray];omega) (Nat.zero_le _))
 have hs1:=Heap.SameBut.update (s1.heap.push {cls:=.type "list",data:=.seq vs.toArray}) s1.heap.objs.size (Obj.mapSeq fun _=>(#[]:Array Value))
 obtain ⟨e1,ho1⟩:∃e1,((s1.heap.push {cls:=.type "list",data:=.seq vs.toArray}).update s1.heap.objs.size (Obj.mapSeq fun _=>(#[]:Array Value))).get? s1.heap.objs.size=some (seqObj "list" #[] e1):=⟨_,get?_update_seq ho fun _=>#[]⟩
 refine wpAny_bind (seqEpoch_at ho1 rfl ?_)
 refine wpAny_bind (wpAny_newTuple ?_ (by show vs.length<=_;omega))
 refine wpAny_bind (wpAny_newList ?_ (Nat.zero_le _))
 refine wpAny_holding ?_
 have I3:Inv X Za σ H {s1 with heap:=(s1.heap.push {cls:=.type "list",data:=.seq vs.toArray}).update s1.heap.objs.size (Obj.mapSeq fun _=>(#[]:Array Value)),toks:=s1.toks}:=
  I2.alter (s:= {s1 with heap:=s1.heap.push {cls:=.type "list",data:=.seq vs.toArray},toks:=s1.toks}) Wa ho (fun v z=>by cases z) fun b u hb z=>(hs1.2 b hb).trans z
 generalize hg4:(s1.heap.push {cls:=.type "list",data:=.seq vs.toArray}).update s1.heap.objs.size (Obj.mapSeq fun _=>(#[]:Array Value))=h4 at *
 have I5:Inv X Za σ H {s1 with heap:=(h4.push {cls:=.type "tuple",data:=.seq vs.toArray}).push {cls:=.type "list",data:=.seq ([]:List Value).toArray},toks:=s1.toks}:=
  I3.kept (s:= {s1 with heap:=h4,toks:=s1.toks}) (t':=s1.toks) fun b o e=>Heap.get?_push_of_some _ (Heap.get?_push_of_some _ e)
 have ha5:((h4.push {cls:=.type "tuple",data:=.seq vs.toArray}).push {cls:=.type "list",data:=.seq ([]:List Value).toArray}).get? s1.heap.objs.size=some (seqObj "list" #[] e1):=Heap.get?_push_of_some _ (Heap.get?_push_of_some _ ho1)
 have tail:∀(P:PySem.Fin->Shared->Prop),(∀(p:Array Nat) s',LS.Pm vs.length p->LS.Up key p vs.length->Inv X Za σ (upd H s1.heap.objs.size (.lst (p.toList.map fun i=>xs.getD i .non))) s'->P (.done (.ret .none)) s')->∀(st:SortSt) (p:Array Nat),LS.Pm vs.length p->LS.Up key p vs.length->arrOf st=p.map (kas_item (vs.toArray.zip vs.toArray))->failedOf st=none->
  wpAny (model X.prog X.w) X.A.in1.in1 (do
   let sorted:=(arrOf st).map (·.2)
   let touched:=(<-seqEpoch s1.heap.objs.size) !=e1
   Builtin.List.listUpdate (.ref s1.heap.objs.size) fun _=>sorted
   if let some e:=failedOf st then rule "list.sort.comparison-raised";throw e
   if touched then rule "list.sort.modified";raiseError "ValueError" "list modified during sort"
   ret .none) P E
   {s1 with heap:=(h4.push {cls:=.type "tuple",data:=.seq vs.toArray}).push {cls:=.type "list",data:=.seq ([]:List Value).toArray},toks:=s1.toks}:=by
  intro P hP st p hp hu har hf
  have hout:=kat_snds rfl har
  have hps:=hp.size
  dsimp only
  rw [hout]
  generalize hg5:(h4.push {cls:=.type "tuple",data:=.seq vs.toArray}).push {cls:=.type "list",data:=.seq ([]:List Value).toArray}=h5 at *
  have hs2:=Heap.SameBut.update h5 s1.heap.objs.size (Obj.mapSeq fun _=>List.toArray (p.toList.map fun i=>vs.getD i Value.none))
  obtain ⟨c2,hg⟩:∃c2,(h5.update s1.heap.objs.size (Obj.mapSeq fun _=>List.toArray (p.toList.map fun i=>vs.getD i Value.none))).get? s1.heap.objs.size=some (seqObj "list" (List.toArray (p.toList.map fun i=>vs.getD i Value.none)) c2):=⟨_,get?_update_seq ha5 (fun _=>List.toArray (p.toList.map fun i=>vs.getD i Value.none))⟩
  refine wpAny_bind (seqEpoch_at ha5 rfl ?_)
  refine wpAny_bind (listUpdate_at ha5 rfl ?_ (Nat.zero_le _) (by show (List.toArray _).size<=_;rw [size_toArray,length_map,Array.length_toList];omega))
  rw [hf]
  simp only [bne_self_eq_false,Bool.false_eq_true,if_false]
  have I6:Inv X Za σ H {s1 with heap:=h5.update s1.heap.objs.size (Obj.mapSeq fun _=>List.toArray (p.toList.map fun i=>vs.getD i Value.none)),toks:=s1.toks}:=I5.alter (s:= {s1 with heap:=h5,toks:=s1.toks}) Wa ha5 (fun v z=>by cases z) fun b u hb z=>(hs2.2 b hb).trans z
  refine wpAny_pure (hP p _ hp hu (I6.track Wa (I6.cellne hg fun v z=>by cases z) ?_))
  refine ⟨by rw [length_map,Array.length_toList];omega,p.toList.map fun i=>vs.getD i Value.none,c2,?_,hg⟩
  exact Zqb rv p.toList fun i hi=>List.mem_range.mp (hp.mem_iff.mp hi)
 dsimp only
 have fin:∀(p:Array Nat) s',LS.Pm vs.length p->LS.Up key p vs.length->Inv X Za σ (upd H s1.heap.objs.size (.lst (p.toList.map fun i=>xs.getD i .non))) s'->EP X Za σ Q (.ref s1.heap.objs.size) s':=fun p s' hp hu J=>⟨.ref s1.heap.objs.size,_,J,rfl,h _ p Wa.free (by rw [lv];exact hp) (by rw [lv];exact hu)⟩
 by_cases h2:vs.toArray.size<2
 ·rw [if_pos h2,if_pos h2]
  refine wpAny_bind (wpAny_pure ?_)
  rw [StateT.run_pure]
  refine wpAny_bind (wpAny_pure ?_)
  rw [size_toArray] at h2
  refine tail _ (fun p s' hp hu J=>⟨_,rfl,wpAny_pure ⟨_,rfl,fin p s' hp hu J⟩⟩) _ (List.toArray (List.range vs.length)) (by unfold LS.Pm;simp) (fun i j hij hj=>?_) ?_ rfl
  ·have:i=j:=by omega
   subst this
   exact KeyOrd.kle_refl _
  ·have e:=kas_range (vs.toArray.zip vs.toArray)
   rw [show (vs.toArray.zip vs.toArray).size=vs.length by simp] at e
   exact e.symm
 ·rw [if_neg h2,if_neg h2]
  rw [size_toArray] at h2
  have hask':=hask _ vs I5 rv
  rw [lv] at hask'
  refine wpAny_bind (hkind _ vs _ _ I5 rv (by omega) ?_)
  refine wpAny_bind (wpAny_mono (kat_run (E:=E) (Q:=fun st' s'=>s'= {s1 with heap:=(h4.push {cls:=.type "tuple",data:=.seq vs.toArray}).push {cls:=.type "list",data:=.seq ([]:List Value).toArray},toks:=s1.toks}/\∃p:Array Nat,LS.Pm vs.length p/\LS.Up key p vs.length/\arrOf st'=p.map (kas_item (vs.toArray.zip vs.toArray))/\failedOf st'=none) (G:=fun p s'=>s'= {s1 with heap:=(h4.push {cls:=.type "tuple",data:=.seq vs.toArray}).push {cls:=.type "list",data:=.seq ([]:List Value).toArray},toks:=s1.toks}/\LS.Pm vs.length p/\LS.Up key p vs.length) rfl (by omega) (by omega) (fun p st' s' _ q2 q3 q4=>⟨q4.1,p,q4.2.1,q4.2.2,q2,q3⟩) (LS.Zot hask' (by omega) rfl fun p s' q1 q2 q3=>⟨q1,q2,q3⟩)) ?_ fun _ _ z=>z)
  rintro ⟨⟨⟩,st'⟩ s' ⟨rfl,p,q1,q2,q3,q4⟩
  exact tail _ (fun p s' hp hu J=>⟨_,rfl,wpAny_pure ⟨_,rfl,fin p s' hp hu J⟩⟩) st' p q1 q2 q3 q4
theorem Zm8 {kL:List (List Nat)} {n:Nat} {p:Array Nat} (hp:LS.Pm n p) (hu:LS.Up (O:=strKind.toKeyOrd) (fun i=>kL.getD i []) p n):p.toList.Pairwise (fun i j=>kL.getD i []<=kL.getD j []):=by
 have hps:=hp.size
 refine List.pairwise_iff_getElem.mpr fun i j hi hj hij=>?_
 rw [Array.length_toList] at hi hj
 have:=hu i j (Nat.le_of_lt hij) (by omega)
 have gi:LS.gt p i=p.toList[i]:=by
  unfold LS.gt
  rw [Array.getD_eq_getD_getElem?]
  simp [hi]
 have gj:LS.gt p j=p.toList[j]:=by
  unfold LS.gt
  rw [Array.getD_eq_getD_getElem?]
  simp [hj]
 rw [gi,gj] at this
 have this:decide (kL.getD p.toList[j] []<kL.getD p.toList[i] [])=false:=this
 exact List.not_lt.mp (of_decide_eq_false this)
end
section
variable {X:Cx}
theorem PFs.imp {ifs:List Expr} {t t':TT} (h:PFs X ifs t) (hi:∀σ H Q,t' σ H Q->∃Q0:Bool->Hp->Prop,t σ H Q0/\∀b H',Q0 b H'->Q b H'):PFs X ifs t':=fun Za s σ H Q I q=>by
 obtain ⟨Q0,h0,h1⟩:=hi σ H Q q
 exact thn (h Za s σ H Q0 I h0) fun b s1 ⟨H1,I1,q⟩=>⟨H1,I1,h1 b H1 q⟩
def ZcJ (tc:TT) (te:TE) (σ:St) (acc:List V) (N:Hp->List V->Prop) (H:Hp):Prop:=tc σ H fun b H3=>if b=true then te σ H3 fun y H4=>N H4 (acc++[y]) else N H3 acc
def ZkT (te:TE):TE:=fun σ H Q=>∃Q0:VK,te σ H Q0/\∀v H',Q0 v H'->Q v H'
def Zlg (tc:TT):TT:=fun σ H Q=>∃Q0:Bool->Hp->Prop,tc σ H Q0/\∀b H',Q0 b H'->Q b H'
theorem ZbC {tc:TT} {te:TE} {σ:St} {acc:List V} {N N':Hp->List V->Prop} {H:Hp} (hN:∀H a,a.length<=acc.length+1->N H a->N' H a) (h:ZcJ tc te σ acc N H):ZcJ (Zlg tc) (ZkT te) σ acc N' H:=by
 refine ⟨_,h,fun b H3 q=>?_⟩
 cases b with
 |true=>exact ⟨_,q,fun y H4 q4=>hN _ _ (by simp) q4⟩
 |false=>exact hN _ _ (by omega) q
def tCL (K:PySem.W.Frag) (n:Nat) (cp:List (Str×Nat)) (tl:TE) (tc:TT) (te:TE):TE:=fun σ H Q=>tl σ H fun v H1=>match v with
 | .ref a=>∃xs,SqL K H1 a xs/\xs.length<16777216/\∃Pv:Nat->Hp->List V->Prop,Pv 0 H1 []/\(∀i H2 acc,i<=xs.length->Pv i H2 acc->SqL K H2 a xs)/\(∀i y H2 acc,xs[i]?=some y->Pv i H2 acc->ZcJ tc te ((J6 n cp σ).set 0 (some y)) acc (Pv (i+1)) H2)/\∀H2 acc,Pv xs.length H2 acc->∀l,H2 l=none->Q (.ref l) (upd H2 l (.lst acc))
 |_=>False
theorem Ze7 {K:PySem.W.Frag} {elt iter:Expr} {ifs:List Expr} {x:Str} {px:Pos} {scope:Scope} {pos:Pos} {cl:List (Str×Addr)} {own:List Str} {cp:List (Str×Nat)} {tl:TE} {tc:TT} {te:TE} (hK:X.K=K)
 (hc:X.calm=true) (hcl:Ja scope.names X.env.cells []=some cl) (hk:scope.kind=.function) (hnc:∀y∈scope.names,y.2≠ .cell)
 (hnm:∀x∈scope.names,x.2=.local->scope.names.lookup x.1=some .local) (hcp:Zam X scope cp) (hl:PE X iter tl) (hn:0<own.length)
 (hg:∀fp C s H,PG (cxC X scope cl (own++cp.map (·.1)) fp C s H) (.Name x px) (Zz 0)) (ht:∀fp C s H,PFs (cxC X scope cl (own++cp.map (·.1)) fp C s H) ifs tc) (he:∀fp C s H,PE (cxC X scope cl (own++cp.map (·.1)) fp C s H) elt te)
 (hs:∀z,foldedSetIterable iter X.env z=pure z:=by intro _;rfl):PE X (.ListComp elt [⟨.Name x px,iter,ifs,0⟩] scope pos) (tCL K own.length cp tl tc te):=by
 subst hK
 have hl':PE X iter (fun σ H Q=>∃Q0:VK,tl σ H Q0/\∀v H',Q0 v H'->Q v H'):=hl.imp fun σ H Q h=>h
 intro Za s σ H Q I h
 refine Zgi hc hcl hk hnc hnm hcp (ZcP hl') (ZgZ hn) hg (fun fp C s H=>(ht fp C s H).imp (t':=Zlg tc) fun _ _ _ z=>z) (fun fp C s H=>(he fp C s H).imp (t':=ZkT te) fun _ _ _ z=>z) hs Za s σ H Q I ?_
 refine ⟨_,h,fun v H1 q=>?_⟩
 cases v with
 |ref a=>
  obtain ⟨xs,hx,hz,Pv,p0,pl,ps,pe⟩:=q
  have hsl:sizeLine=16777216:=sizeLine_eq
  refine ⟨a,rfl,⟨xs,hx⟩,fun i m H2 acc=>m=xs.length-i/\i<=xs.length/\acc.length<=i/\Pv i H2 acc,⟨xs.length,by omega,Nat.zero_le _,Nat.le_refl _,p0⟩,?_⟩
  rintro i m H2 acc ⟨rfl,hi,hla,pv'⟩
  refine ⟨by omega,?_⟩
  have hx2:=pl i H2 acc hi pv'
  by_cases hlt:i<xs.length
  ·refine .inr ⟨⟨xs,xs[i],hx2,by simp [hlt]⟩,fun y H3 ⟨e3,ey⟩=>?_⟩
   subst e3
   exact ZbC (N':=fun H a=>∃m',m'<xs.length-i/\(m'=xs.length-(i+1)/\i+1<=xs.length/\a.length<=i+1/\Pv (i+1) H a)) (fun H a ha z=>⟨xs.length-(i+1),by omega,rfl,hlt,by omega,z⟩) (ps i y H3 acc (ey xs hx2) pv')
  ·have e:i=xs.length:=by omega
   subst e
   exact .inl ⟨⟨xs,hx2,Nat.le_refl _⟩,fun l hl'=>pe H2 acc pv' l hl'⟩
 |_=>exact False.elim q
end
def Its (z:Str):It:=⟨fun i _=>i<(L z).length,fun i H x H'=>H'=H/\x=.str (T [(L z).getD i 0]),fun i _=>(L z).length<=i⟩
theorem ZnE {z:Str} {i:Nat} (h:i<(L z).length):z.cps[i]?=some ((L z).getD i 0):=by
 unfold L at h ⊢
 rw [Array.length_toList] at h
 rw [List.getD_eq_getElem?_getD,Array.getElem?_toList,Array.getElem?_eq_getElem h]
 rfl
theorem Zjr {z:Str} {i:Nat} (h:(L z).length<=i):z.cps[i]?=none:=by
 unfold L at h
 rw [Array.length_toList] at h
 exact Array.getElem?_eq_none h
section
variable {P:Program} {w:World} {K:PySem.W.Frag} {tg:Expr}
theorem Zih (z:Str) (t:Tok) (it:Addr):Zln P w K tg (Its z) [it] it (fun i h=>h.IsStrIter it "str_ascii_iterator" z t i) where
 mem:=by simp
 obj:=fun i h st b hb=>by
  have e:b=it:=by simpa using hb
  subst e
  obtain ⟨o,e,c,d⟩:=st
  exact ⟨o,e,fun v y=>by rw [d] at y;cases y⟩
 keep:=fun i h h' st k=>by
  obtain ⟨o,e,c,d⟩:=st
  exact ⟨o,k it (by simp) o e,c,d⟩
 item:=by
  intro X hP hw hK hc i Za s σ H E I hf st hg
  subst hP hw hK
  obtain ⟨f0,f1,f2,f3,f4,f5⟩:=hf it (by simp)
  refine wpAny_pyNext_ascii_item st (ZnE hg) fun h' st' sb=>?_
  have I1:Inv X Za σ H {s with heap:=h',toks:=s.toks+1}:=I.turned (t':=s.toks+1) (fun b o hb e=>(sb.2 b hb).trans e) f0 f1 f3 f4 f5
  obtain ⟨o,e,c,d⟩:=id st'
  exact ⟨_,rfl,Zhv (s:= {s with heap:=h',toks:=s.toks+1}) e c d (by decide) ⟨.str (T [(L z).getD i 0]),H,I1,⟨_,rfl⟩,⟨rfl,rfl⟩,st',fun b hb=>(hf b hb).1⟩⟩
 done:=by
  intro X hP hw hK hc i Za s σ H E I hf st hg
  subst hP hw hK
  obtain ⟨f0,f1,f2,f3,f4,f5⟩:=hf it (by simp)
  exact wpAny_pyNext_ascii_end (I.ok.hd hc) st (Zjr hg) fun h' eb=>⟨rfl,I.turned (t':=s.toks) (fun b o hb e=>eb b o hb e) f0 f1 f3 f4 f5⟩
 self:=fun _ _ _ _ _ st h=>wpAny_pyIter_striter_ascii st h
theorem Zlh (z:Str) (t:Tok) (it:Addr):Zln P w K tg (Its z) [it] it (fun i h=>h.IsStrIter it "str_iterator" z t i) where
 mem:=by simp
 obj:=fun i h st b hb=>by
  have e:b=it:=by simpa using hb
  subst e
  obtain ⟨o,e,c,d⟩:=st
  exact ⟨o,e,fun v y=>by rw [d] at y;cases y⟩
 keep:=fun i h h' st k=>by
  obtain ⟨o,e,c,d⟩:=st
  exact ⟨o,k it (by simp) o e,c,d⟩
 item:=by
  intro X hP hw hK hc i Za s σ H E I hf st hg
  subst hP hw hK
  obtain ⟨f0,f1,f2,f3,f4,f5⟩:=hf it (by simp)
  refine wpAny_pyNext_wide_item st (ZnE hg) fun h' st' sb=>?_
  have I1:Inv X Za σ H {s with heap:=h',toks:=s.toks+1}:=I.turned (t':=s.toks+1) (fun b o hb e=>(sb.2 b hb).trans e) f0 f1 f3 f4 f5
  obtain ⟨o,e,c,d⟩:=id st'
  exact ⟨_,rfl,Zhv (s:= {s with heap:=h',toks:=s.toks+1}) e c d (by decide) ⟨.str (T [(L z).getD i 0]),H,I1,⟨_,rfl⟩,⟨rfl,rfl⟩,st',fun b hb=>(hf b hb).1⟩⟩
 done:=by
  intro X hP hw hK hc i Za s σ H E I hf st hg
  subst hP hw hK
  obtain ⟨f0,f1,f2,f3,f4,f5⟩:=hf it (by simp)
  exact wpAny_pyNext_wide_end (I.ok.hd hc) st (Zjr hg) fun h' eb=>⟨rfl,I.turned (t':=s.toks) (fun b o hb e=>eb b o hb e) f0 f1 f3 f4 f5⟩
 self:=fun _ _ _ _ _ st h=>wpAny_pyIter_striter_wide st h
end
section
variable {X:Cx} {tg:Expr}
def ZBi (tl:TE):TI:=fun σ H R=>tl σ H fun x H1=>∃z,x=.str z/\R (Its z) H1
theorem Zwi {l:Expr} {tl:TE} (hl:PE X l tl):PI X tg l (ZBi tl):=by
 intro Za s σ H R I h
 refine thn (hl Za s σ H _ I h) fun v s1 ⟨x,H1,I1,r1,q1⟩=>?_
 obtain ⟨z,e,q⟩:=q1
 subst e
 obtain ⟨t,rfl⟩:=r1
 refine wpAny_pyIter_strU ?_
 have fp:∀b∈[s1.heap.objs.size],Zcu X Za H1 b:=fun b hb=>by
  have e:b=s1.heap.objs.size:=by simpa using hb
  subst e
  exact I1.fpOk (Nat.le_refl _) (I1.hok.fresh (Nat.le_refl _))
 have J:Inv X Za σ H1 {s1 with heap:=s1.heap.push {cls:=.type (strIterType z),data:=.fields #[.str z t,.int 0 0]} }:=I1.kept (t':=s1.toks) fun b o e=>Heap.get?_push_of_some _ e
 have st:(s1.heap.push {cls:=.type (strIterType z),data:=.fields #[.str z t,.int 0 0]}).IsStrIter s1.heap.objs.size (strIterType z) z t 0:=⟨_,Heap.get?_push_size _ rfl,rfl,rfl⟩
 by_cases ha:z.cps.all (· <128)=true
 ·have e:strIterType z="str_ascii_iterator":=if_pos ha
  rw [e] at J st ⊢
  exact ⟨_,_,_,_,H1,rfl,J,Zih z t _,st,fp,q⟩
 ·have e:strIterType z="str_iterator":=if_neg ha
  rw [e] at J st ⊢
  exact ⟨_,_,_,_,H1,rfl,J,Zlh z t _,st,fp,q⟩
def tCS (n:Nat) (cp:List (Str×Nat)) (tl:TE) (tc:TT) (te:TE):TE:=fun σ H Q=>tl σ H fun v H1=>match v with
 | .str z=>(L z).length<16777216/\∃Pv:Nat->Hp->List V->Prop,Pv 0 H1 []/\(∀i H2 acc,i<(L z).length->Pv i H2 acc->ZcJ tc te ((J6 n cp σ).set 0 (some (.str (T [(L z).getD i 0])))) acc (Pv (i+1)) H2)/\∀H2 acc,Pv (L z).length H2 acc->∀l,H2 l=none->Q (.ref l) (upd H2 l (.lst acc))
 |_=>False
theorem Zmg {elt iter:Expr} {ifs:List Expr} {x:Str} {px:Pos} {scope:Scope} {pos:Pos} {cl:List (Str×Addr)} {own:List Str} {cp:List (Str×Nat)} {tl:TE} {tc:TT} {te:TE}
 (hc:X.calm=true) (hcl:Ja scope.names X.env.cells []=some cl) (hk:scope.kind=.function) (hnc:∀y∈scope.names,y.2≠ .cell)
 (hnm:∀x∈scope.names,x.2=.local->scope.names.lookup x.1=some .local) (hcp:Zam X scope cp) (hl:PE X iter tl) (hn:0<own.length)
 (hg:∀fp C s H,PG (cxC X scope cl (own++cp.map (·.1)) fp C s H) (.Name x px) (Zz 0)) (ht:∀fp C s H,PFs (cxC X scope cl (own++cp.map (·.1)) fp C s H) ifs tc) (he:∀fp C s H,PE (cxC X scope cl (own++cp.map (·.1)) fp C s H) elt te)
 (hs:∀z,foldedSetIterable iter X.env z=pure z:=by intro _;rfl):PE X (.ListComp elt [⟨.Name x px,iter,ifs,0⟩] scope pos) (tCS own.length cp tl tc te):=by
 have hl':PE X iter (fun σ H Q=>∃Q0:VK,tl σ H Q0/\∀v H',Q0 v H'->Q v H'):=hl.imp fun σ H Q h=>h
 intro Za s σ H Q I h
 refine Zgi hc hcl hk hnc hnm hcp (Zwi hl') (ZgZ hn) hg (fun fp C s H=>(ht fp C s H).imp (t':=Zlg tc) fun _ _ _ z=>z) (fun fp C s H=>(he fp C s H).imp (t':=ZkT te) fun _ _ _ z=>z) hs Za s σ H Q I ?_
 refine ⟨_,h,fun v H1 q=>?_⟩
 cases v with
 |str z=>
  obtain ⟨hz,Pv,p0,ps,pe⟩:=q
  have hsl:sizeLine=16777216:=sizeLine_eq
  refine ⟨z,rfl,fun i m H2 acc=>m=(L z).length-i/\i<=(L z).length/\acc.length<=i/\Pv i H2 acc,⟨(L z).length,by omega,Nat.zero_le _,Nat.le_refl _,p0⟩,?_⟩
  rintro i m H2 acc ⟨rfl,hi,hla,pv'⟩
  refine ⟨by omega,?_⟩
  by_cases hlt:i<(L z).length
  ·refine .inr ⟨hlt,fun y H3 ⟨e3,ey⟩=>?_⟩
   subst e3 ey
   exact ZbC (N':=fun H a=>∃m',m'<(L z).length-i/\(m'=(L z).length-(i+1)/\i+1<=(L z).length/\a.length<=i+1/\Pv (i+1) H a)) (fun H a ha y=>⟨(L z).length-(i+1),by omega,rfl,hlt,by omega,y⟩) (ps i H3 acc hlt pv')
  ·have e:i=(L z).length:=by omega
   subst e
   exact .inl ⟨Nat.le_refl _,fun l hl'=>pe H2 acc pv' l hl'⟩
 |_=>exact False.elim q
end
section
variable {κ:Type} [DecidableEq κ]
def z6 (kvs:List (κ×V)) (k:κ):Option V:=(kvs.find? fun kv=>decide (kv.1=k)).map (·.2)
def Zah (kvs:List (κ×V)) (k:κ) (v:V):List (κ×V):=
 if (kvs.any fun kv=>decide (kv.1=k))=true then kvs.map (fun kv=>if kv.1=k then (kv.1,v) else kv) else kvs++[(k,v)]
def ZBk (kvs:List (κ×V)) (k:κ):List (κ×V):=kvs.filter fun kv=>decide (kv.1≠k)
theorem Yf {p:κ×V} {r:List (κ×V)} {k:κ} (e:p.1=k):z6 (p::r) k=some p.2:=by simp [z6,List.find?_cons,e]
theorem Yu {p:κ×V} {r:List (κ×V)} {k:κ} (e:¬p.1=k):z6 (p::r) k=z6 r k:=by simp [z6,List.find?_cons,e]
theorem Zc1 (k:κ):∀kvs:List (κ×V),(kvs.any fun kv=>decide (kv.1=k))=(z6 kvs k).isSome
 |[]=>rfl
 |p::r=>by
  rw [List.any_cons]
  by_cases e:p.1=k
  ·simp only [Yf e,decide_eq_true e,Bool.true_or,Option.isSome_some]
  ·rw [Yu e,decide_eq_false e,Bool.false_or];exact Zc1 k r
theorem Zh8 (k j:κ) (y:V):∀kvs:List (κ×V),z6 (kvs.map fun kv=>if kv.1=k then (kv.1,y) else kv) j=(z6 kvs j).map fun x=>if j=k then y else x
 |[]=>rfl
 |p::r=>by
  have ih:=Zh8 k j y r
  rw [map_cons]
  by_cases h:p.1=k
  ·rw [if_pos h]
   by_cases e:p.1=j
   ·rw [Yf (p:=(p.1,y)) e,Yf e,Option.map_some,if_pos (e.symm.trans h)]
   ·rw [Yu (p:=(p.1,y)) e,Yu e,ih]
  ·rw [if_neg h]
   by_cases e:p.1=j
   ·rw [Yf (p:=p) e,Yf e,Option.map_some,if_neg (fun z=>h (e.trans z))]
   ·rw [Yu (p:=p) e,Yu e,ih]
theorem Zf4 (k j:κ) (y:V):∀kvs:List (κ×V),z6 kvs k=none->z6 (kvs++[(k,y)]) j=if j=k then some y else z6 kvs j
 |[],_=>by
  by_cases e:k=j
  ·rw [if_pos e.symm];exact Yf (p:=(k,y)) e
  ·rw [if_neg (fun z=>e z.symm)];exact Yu (p:=(k,y)) e
 |p::r,hn=>by
  rw [cons_append]
  have hk:¬p.1=k:=fun z=>by rw [Yf z] at hn;cases hn
  rw [Yu hk] at hn
  have ih:=Zf4 k j y r hn
  by_cases e:p.1=j
  ·rw [Yf e,Yf e,if_neg (fun z=>hk (e.trans z))]
  ·rw [Yu e,Yu e,ih]
theorem Zml (kvs:List (κ×V)) (k j:κ) (y:V):z6 (Zah kvs k y) j=if j=k then some y else z6 kvs j:=by
 unfold Zah
 by_cases a:(kvs.any fun kv=>decide (kv.1=k))=true
 ·rw [if_pos a,Zh8]
  rw [Zc1] at a
  by_cases e:j=k
  ·obtain ⟨x,hx⟩:=Option.isSome_iff_exists.mp a
   rw [if_pos e,e,hx,Option.map_some,if_pos rfl]
  ·rw [if_neg e]
   cases z6 kvs j with
   |none=>rfl
   |some x=>rw [Option.map_some,if_neg e]
 ·rw [if_neg a]
  refine Zf4 k j y kvs ?_
  rw [Zc1] at a
  cases q:z6 kvs k with
  |none=>rfl
  |some x=>rw [q] at a;exact (a rfl).elim
theorem ZdM (kvs:List (κ×V)) (k:κ) (v:V):(Zah kvs k v).length<=kvs.length+1:=by
 unfold Zah
 split
 ·rw [length_map];omega
 ·rw [length_append,length_cons,length_nil];omega
theorem Zcj.isSome_eq {o:Option V} {u:Option Value} (r:Zcj o u):o.isSome=u.isSome:=by
 cases o with
 |none=>cases u with
  |none=>rfl
  |some _=>exact (show False from r).elim
 |some _=>cases u with
  |none=>exact (show False from r).elim
  |some _=>rfl
theorem KV.val {kvs:List (κ×V)} {vs:List (κ×Value)} (r:KV kvs vs) (k:κ):Zcj (z6 kvs k) (valueAt vs k):=by
 unfold KV at r
 induction r with
 |nil=>exact True.intro
 |@cons p q ps qs h t ih=>
  obtain ⟨h1,h2⟩:=h
  by_cases e:p.1=k
  ·have e':q.1=k:=h1.symm.trans e
   have b:valueAt (q::qs) k=some q.2:=by simp [valueAt,List.find?_cons,e']
   rw [Yf e,b];exact h2
  ·have e':¬q.1=k:=fun z=>e (h1.trans z)
   have b:valueAt (q::qs) k=valueAt qs k:=by simp [valueAt,List.find?_cons,e']
   rw [Yu e,b];exact ih
theorem KV.any {kvs:List (κ×V)} {vs:List (κ×Value)} (r:KV kvs vs) (k:κ):(kvs.any fun kv=>decide (kv.1=k))=vs.any fun kv=>decide (kv.1=k):=by
 unfold KV at r
 induction r with
 |nil=>rfl
 |cons h t ih=>rw [List.any_cons,List.any_cons,ih,h.1]
theorem KV.repl {kvs:List (κ×V)} {vs:List (κ×Value)} (r:KV kvs vs) (k:κ) {y:V} {u:Value} (ry:Z2 y u):
 KV (kvs.map fun kv=>if kv.1=k then (kv.1,y) else kv) (vs.map fun kv=>if kv.1=k then (kv.1,u) else kv):=by
 unfold KV at r ⊢
 induction r with
 |nil=>exact .nil
 |@cons p q ps qs h t ih=>
  rw [map_cons,map_cons]
  refine .cons ?_ ih
  obtain ⟨h1,h2⟩:=h
  by_cases e:p.1=k
  ·rw [if_pos e,if_pos (h1.symm.trans e)];exact ⟨h1,ry⟩
  ·rw [if_neg e,if_neg (fun z=>e (h1.trans z))];exact ⟨h1,h2⟩
theorem KV.put {kvs:List (κ×V)} {vs:List (κ×Value)} (r:KV kvs vs) (k:κ) {y:V} {u:Value} (ry:Z2 y u):KV (Zah kvs k y) (stored vs k u):=by
 unfold Zah stored
 rw [r.any k]
 by_cases e:(vs.any fun kv=>decide (kv.1=k))=true
 ·rw [if_pos e,if_pos e];exact r.repl k ry
 ·rw [if_neg e,if_neg e];exact Paired.snoc r ⟨rfl,ry⟩
theorem KV.length {kvs:List (κ×V)} {vs:List (κ×Value)} (r:KV kvs vs):kvs.length=vs.length:=Paired.length r
end
theorem ZfN {P:Program} {w:World} {k:Key} {u:Value} (r:Z2 (kV k) u):(z4 P w).is k u=true:=by
 cases k with
 |inl i=>obtain ⟨t,e⟩:=(show ∃t,u=Value.int i t from r);subst e;exact Zia P w i t
 |inr x=>obtain ⟨t,e⟩:=(show ∃t,u=Value.str x t from r);subst e;exact Zh0 P w x t
theorem Zf7 {P:Program} {w:World}:∀{ks:List Key} {us:List Value},ZD (ks.map kV) us->ItemsAre (z4 P w) ks us
 |[],_,r=>by rw [map_nil] at r;cases r;exact .nil
 |k::ks,_,r=>by
  rw [map_cons] at r
  cases r with
  |cons h t=>exact .cons (ZfN h) (Zf7 t)
abbrev KT (H:Hp):List (List Key×V)->List (List Key×Addr×Value)->Prop:=Paired fun p q=>p.1=q.1/\H q.2.1=some (.tup (p.1.map kV))/\Z2 p.2 q.2.2
theorem KT.val {H:Hp} {kvs:List (List Key×V)} {xs:List (List Key×Addr×Value)} (r:KT H kvs xs) (k:List Key):Zcj (z6 kvs k) ((atKey xs k).map (·.2)):=by
 induction r with
 |nil=>exact True.intro
 |@cons p q ps qs h t ih=>
  obtain ⟨h1,_,h2⟩:=h
  by_cases e:p.1=k
  ·have e':q.1=k:=h1.symm.trans e
   have b:atKey (q::qs) k=some q.2:=by simp [atKey,List.find?_cons,e']
   rw [Yf e,b];exact h2
  ·have e':¬q.1=k:=fun z=>e (h1.trans z)
   have b:atKey (q::qs) k=atKey qs k:=by simp [atKey,List.find?_cons,e']
   rw [Yu e,b];exact ih
section
variable {P:Program} {w:World} {H:Hp} {h:Heap} {a:Addr}
theorem ZrX {u:HO} (ok:HOk P w H h) (e:Rd H a u):zD P w H h a u:=e.ok ok
theorem Zhy {kvs:List (Key×V)} (ok:HOk P w H h) (e:Rd H a (.dK kvs)):kvs.length<=sizeLine/\(a==sysModules)=false/\∃vs,KV kvs vs/\h.DictOf (z4 P w) a vs:=
 show zD P w H h a (.dK kvs) from ZrX ok e
theorem Zz5 {kvs:List (Key×V)} (ok:HOk P w H h) (e:H a=some (.dK kvs)):kvs.length<=sizeLine/\(a==sysModules)=false/\∃vs,KV kvs vs/\h.DictOf (z4 P w) a vs:=Zhy ok (.inl e)
theorem Zi3 {ks:List Key} (ok:HOk P w H h) (e:H a=some (.tup (ks.map kV))):(tupleKind (z4 P w)).is h ks a:=by
 obtain ⟨_,its,r,o,h1,h2,n,h3⟩:=(show zD P w H h a (.tup (ks.map kV)) from ok a _ e)
 exact ⟨o,its.toArray,n,h1,h2,h3,by simpa using Zf7 r⟩
theorem Zkg {kvs:List (List Key×V)} (ok:HOk P w H h) (e:Rd H a (.dT kvs)):kvs.length<=sizeLine/\(a==sysModules)=false/\
 ∃xs,KT H kvs xs/\h.DictOfH (tupleKind (z4 P w)) a xs:=by
 exact False.elim (show zD P w H h a (.dT kvs) from ZrX ok e)
end
def DGet (H:Hp) (a:Addr) (y:V) (r:Option V):Prop:=
 (∃kvs k,Rd H a (.dK kvs)/\y=kV k/\r=z6 kvs k)\/∃kvs k b,Rd H a (.dT kvs)/\y=.ref b/\H b=some (.tup (k.map kV))/\r=z6 kvs k
def ZkK (H:Hp) (a:Addr) (y v:V) (H':Hp):Prop:=
 (∃kvs k,H a=some (.dK kvs)/\y=kV k/\kvs.length<sizeLine/\H'=upd H a (.dK (Zah kvs k v)))\/
 ∃kvs k b,H a=some (.dT kvs)/\y=.ref b/\H b=some (.tup (k.map kV))/\kvs.length<sizeLine/\H'=upd H a (.dT (Zah kvs k v))
theorem DGet.k {H:Hp} {a:Addr} {kvs:List (Key×V)} {k:Key} (e:H a=some (.dK kvs)):DGet H a (kV k) (z6 kvs k):=.inl ⟨kvs,k,.inl e,rfl,rfl⟩
theorem ZkK.k {H:Hp} {a:Addr} {kvs:List (Key×V)} {k:Key} {v:V} (e:H a=some (.dK kvs)) (hl:kvs.length<sizeLine):ZkK H a (kV k) v (upd H a (.dK (Zah kvs k v))):=.inl ⟨kvs,k,e,rfl,hl,rfl⟩
section
variable {X:Cx} {Za:List (Addr×Obj)} {σ:St} {H:Hp} {s:Shared} {a:Addr} {y v:V} {u r:Value} {o:Option V} {A:Around} {E:Value->Shared->Prop}
theorem Inv.big (I:Inv X Za σ H s):sysModules<s.heap.objs.size:=by
 have h:mainGlobals<s.heap.objs.size:=(I.mod.glob.keeps I.bk).lt
 exact Nat.lt_trans (by decide) h
theorem Zlo {Q:Value->Shared->Prop} (hu:A.units+1<cLine) (I:Inv X Za σ H s) (g:DGet H a y (some v)) (ry:Z2 y u) (h:∀w' s',Inv X Za σ H s'->Z2 v w'->Q w' s'):
 wpAny (model X.prog X.w) A (getItem (.ref a) u) Q E s:=by
 rcases g with ⟨kvs,k,e,ey,l⟩|⟨kvs,k,b,e,ey,eb,l⟩
 ·subst ey
  obtain ⟨z,hd,vs,rel,dd⟩:=Zhy I.hok e
  obtain ⟨w',hw,rw'⟩:=Zcj.some_of (v:=v) (o:=valueAt vs k) (by rw [l];exact rel.val k)
  exact wpAny_getItem_of (ZfN ry) dd.mapOf hw (h w' _ (I.tok _) rw')
 ·subst ey
  cases (show u=Value.ref b from ry)
  obtain ⟨z,hd,xs,rel,dd⟩:=Zkg I.hok e
  obtain ⟨w',hw,rw'⟩:=Zcj.some_of (v:=v) (o:=(atKey xs k).map (·.2)) (by rw [l];exact rel.val k)
  obtain ⟨p,hp,hp2⟩:=Option.map_eq_some_iff.mp hw
  refine wpAny_getItem_heap (tupleKind_room_in1 hu) (Zi3 I.hok eb) dd hp ?_
  rw [hp2]
  exact h w' _ (I.tok _) rw'
theorem ZAK {Q:Value->Shared->Prop} (hu:A.units+1<cLine) (I:Inv X Za σ H s) (g:DGet H a y o) (ry:Z2 y u) (h:∀s',Inv X Za σ H s'->Q (.bool o.isSome) s'):
 wpAny (model X.prog X.w) A (compareOp .In u (.ref a)) Q E s:=by
 rcases g with ⟨kvs,k,e,ey,l⟩|⟨kvs,k,b,e,ey,eb,l⟩
 ·subst ey
  obtain ⟨z,hd,vs,rel,dd⟩:=Zhy I.hok e
  refine wpAny_in_of (ZfN ry) hd dd.mapOf ?_
  rw [<-(rel.val k).isSome_eq,<-l]
  exact h _ (I.tok _)
 ·subst ey
  cases (show u=Value.ref b from ry)
  obtain ⟨z,hd,xs,rel,dd⟩:=Zkg I.hok e
  refine wpAny_in_heap (tupleKind_room_in1 hu) (Zi3 I.hok eb) hd dd ?_
  have q:=(rel.val k).isSome_eq
  rw [Option.isSome_map] at q
  rw [<-q,<-l]
  exact h _ (I.tok _)
theorem ZpU {Q:Value->Shared->Prop} (hu:A.units+1<cLine) (I:Inv X Za σ H s) (g:DGet H a y o) (ry:Z2 y u) (h:∀s',Inv X Za σ H s'->Q (.bool (!o.isSome)) s'):
 wpAny (model X.prog X.w) A (compareOp .NotIn u (.ref a)) Q E s:=by
 rcases g with ⟨kvs,k,e,ey,l⟩|⟨kvs,k,b,e,ey,eb,l⟩
 ·subst ey
  obtain ⟨z,hd,vs,rel,dd⟩:=Zhy I.hok e
  refine wpAny_notIn_of (ZfN ry) hd dd.mapOf ?_
  rw [<-(rel.val k).isSome_eq,<-l]
  exact h _ (I.tok _)
 ·subst ey
  cases (show u=Value.ref b from ry)
  obtain ⟨z,hd,xs,rel,dd⟩:=Zkg I.hok e
  refine wpAny_notIn_heap (tupleKind_room_in1 hu) (Zi3 I.hok eb) hd dd ?_
  have q:=(rel.val k).isSome_eq
  rw [Option.isSome_map] at q
  rw [<-q,<-l]
  exact h _ (I.tok _)
theorem ZqP {h':Heap} {t':Nat} {ob:HO} (I:Inv X Za σ H s) (mu:Mut (H a)) (hs:Heap.SameBut a s.heap h') (he:∃q,h'.get? a=some q) (new:zD X.prog X.w (upd H a ob) h' a ob):
 Inv X Za σ (upd H a ob) {s with heap:=h',toks:=t'}:=
 I.write (x:=a) (e:=a) mu (.inl rfl) (fun b q hb z=>(hs.2 b hb).trans z) he new
theorem Zwe {P:Program} {w:World} {H':Hp} {h':Heap} {kvs:List (Key×V)} {vs:List (Key×Value)} (z:kvs.length<=sizeLine) (hd:(a==sysModules)=false) (rel:KV kvs vs) (dd:h'.DictOf (z4 P w) a vs):
 zD P w H' h' a (.dK kvs):=⟨z,hd,vs,rel,dd⟩
theorem ZkZ {H':Hp} {Q:Unit->Shared->Prop} (hu:A.units+1<cLine) (I:Inv X Za σ H s) (g:ZkK H a y v H') (ry:Z2 y u) (rv:Z2 v r) (h:∀s',Inv X Za σ H' s'->Q () s'):
 wpAny (model X.prog X.w) A (setItem (.ref a) u r) Q E s:=by
 rcases g with ⟨kvs,k,e,ey,l,eH⟩|⟨kvs,k,b,e,ey,eb,l,eH⟩
 ·subst ey eH
  obtain ⟨z,hd,vs,rel,dd⟩:=Zz5 I.hok e
  have hz:vs.length<=sizeLine:=by rw [<-rel.length];exact z
  have hl:(Zah kvs k v).length<=sizeLine:=by have:=ZdM kvs k v;omega
  refine wpAny_setItem_pairs (hsz:=hz) (ZfN ry) dd fun h' dd' hs=>h _ ?_
  have he:∃q,h'.get? a=some q:=let ⟨q,_,_,hq,_⟩:=dd';⟨q,hq⟩
  exact ZqP I (by rw [e];exact True.intro) hs he (Zwe hl hd (rel.put k rv) dd')
 ·exact False.elim (show zD X.prog X.w H s.heap a (.dT kvs) from I.hok a _ e)
end
def ZyS (i:Expr):Prop:=∀ov iv,subscripted i false ov iv=operate [ov,iv] (getItem ov iv)
theorem Zp3 {prog:Program} {w:World} {A:Around} {E:Value->Shared->Prop} {s:Shared} {env:Env} {value slice:Expr} {pos:Pos} {T id:String} {Q:Value->Shared->Prop}
 (hl:typeLookup (.type T) "__getitem__"=pure (some (.builtin id))) (hs:ZyS slice)
 (h:wpAny (model prog w) A (eval value env) (fun o s₁=>wpAny (model prog w) A (eval slice env) (fun i s₂=>s₂.TypeIs o T/\wpAny (model prog w) A (getItem o i) Q E s₂) E s₁) E s):
 wpAny (model prog w) A (eval (.Subscript value slice pos) env) Q E s:=by
 refine Subscript_ (wpAny_mono h (fun o s₁ h₁=>wpAny_mono h₁ (fun i s₂ h₂=>?_) fun _ _ x=>x) fun _ _ x=>x)
 obtain ⟨hT,h₂⟩:=h₂
 unfold subscriptTail
 refine wpAny_bind ?_
 rw [getitemInPython_of_ne hT.not_modules]
 refine wpAny_bind (wpAny_specialOf hT hl ?_)
 have fin:wpAny (model prog w) A (subscripted slice false o i) (fun r s₃=>wpAny (model prog w) A (letTemporaryGo value o r >>=fun _=>pure r) Q E s₃) E s₂:=by
  rw [hs o i]
  exact wpAny_operating (wpAny_mono h₂ (fun r s₃ h₃=>wpAny_bind (wpAny_letTemporaryGo (wpAny_pure h₃))) fun _ _ x=>x)
 first
  |exact wpAny_pure (wpAny_bind fin)
  |exact wpAny_bind (wpAny_pure (wpAny_bind fin))
  |exact wpAny_bind fin
theorem ZhF {X:Cx} {Za:List (Addr×Obj)} {σ:St} {H:Hp} {s:Shared} {a:Addr} {y:V} {o:Option V} (I:Inv X Za σ H s) (g:DGet H a y o):s.TypeIs (.ref a) "dict":=by
 rcases g with ⟨kvs,k,e,_,_⟩|⟨kvs,k,b,e,_,_,_⟩
 ·obtain ⟨_,_,vs,_,dd⟩:=Zhy I.hok e
  exact dd.typeIs
 ·obtain ⟨_,_,xs,_,dd⟩:=Zkg I.hok e
  exact dd.typeIs
def Zbr (td ty:TE):TE:=fun σ H Q=>td σ H fun x H1=>ty σ H1 fun y H2=>∃a v,x=.ref a/\DGet H2 a y (some v)/\Q v H2
def ZqU (ty td:TE):TE:=fun σ H Q=>ty σ H fun y H1=>td σ H1 fun x H2=>∃a o,x=.ref a/\DGet H2 a y o/\Q (.bl o.isSome) H2
def ZjZ (ty td:TE):TE:=fun σ H Q=>ty σ H fun y H1=>td σ H1 fun x H2=>∃a o,x=.ref a/\DGet H2 a y o/\Q (.bl (!o.isSome)) H2
def ZfL (td ty tv:TE):TS:=fun D σ H=>tv σ H fun v H1=>td σ H1 fun x H2=>ty σ H2 fun y H3=>∃a H4,x=.ref a/\ZkK H3 a y v H4/\D.nx σ H4
section
variable {X:Cx} {o i e value:Expr} {pos pos' tpos:Pos} {td ty tv:TE}
theorem Yr (hu:X.A.units+1<cLine) (ho:PE X o td) (hi:PE X i ty) (hs:ZyS i):PE X (.Subscript o i pos) (Zbr td ty):=by
 intro Za s σ H Q I h
 refine Zp3 PySem.F.slot_dict_getitem.lookup hs (thn (ho Za s σ H _ I h) fun u s1 ⟨x,H1,I1,rx,q1⟩=>thn (hi Za s1 σ H1 _ I1 q1) fun iv s2 ⟨y,H2,I2,ry,a,v,ex,g,q2⟩=>?_)
 subst ex
 obtain rfl:u=Value.ref a:=rx
 exact ⟨ZhF I2 g,Zlo hu I2 g ry fun w' s3 I3 rw'=>⟨v,H2,I3,rw',q2⟩⟩
theorem Zir (hu:X.A.units+1<cLine) (hi:PE X i ty) (ho:PE X o td):PC X .In i o (ZqU ty td):=by
 intro Za s σ H Q I h
 refine thn (hi Za s σ H _ I h) fun iv s1 ⟨y,H1,I1,ry,q1⟩=>thn (ho Za s1 σ H1 _ I1 q1) fun u s2 ⟨x,H2,I2,rx,a,ov,ex,g,q2⟩=>?_
 subst ex
 obtain rfl:u=Value.ref a:=rx
 exact ZAK hu I2 g ry fun s3 I3=>⟨.bl ov.isSome,H2,I3,rfl,q2⟩
theorem ZkB (hu:X.A.units+1<cLine) (hi:PE X i ty) (ho:PE X o td):PC X .NotIn i o (ZjZ ty td):=by
 intro Za s σ H Q I h
 refine thn (hi Za s σ H _ I h) fun iv s1 ⟨y,H1,I1,ry,q1⟩=>thn (ho Za s1 σ H1 _ I1 q1) fun u s2 ⟨x,H2,I2,rx,a,ov,ex,g,q2⟩=>?_
 subst ex
 obtain rfl:u=Value.ref a:=rx
 exact ZpU hu I2 g ry fun s3 I3=>⟨.bl (!ov.isSome),H2,I3,rfl,q2⟩
theorem Zei (hu:X.A.units+1<cLine) (ho:PE X o td) (hi:PE X i ty) (hv:PE X value tv) (hs:swapsWith value (some (.Subscript o i pos')) pos.line X.env=pure false):
 PS X (.Assign [.Subscript o i pos'] value pos) (ZfL td ty tv):=by
 intro Za s σ H D I h
 refine wpAny_Assign_Subscript (thn (hv Za s σ H _ I h) fun r s1 ⟨v,H1,I1,rv,q1⟩=>thn (ho Za s1 σ H1 _ I1 q1) fun u s2 ⟨x,H2,I2,rx,q2⟩=>thn (hi Za s2 σ H2 _ I2 q2) fun iv s3 ⟨y,H3,I3,ry,a,H4,ex,g,q3⟩=>?_) hs
 subst ex
 obtain rfl:u=Value.ref a:=rx
 exact ZkZ hu I3 g ry rv fun s4 I4=>⟨σ,H4,I4,q3⟩
end
theorem Zmv {P:Program} {w:World} {H:Hp} (h:Heap) (hb:sysModules<h.objs.size):zD P w H (h.push {cls:=.type "dict",data:=.dict #[]}) h.objs.size (.dK []):=
 ⟨Nat.zero_le _,beq_eq_false_iff_ne.mpr (Ne.symm (Nat.ne_of_lt hb)),[],.nil,Heap.DictOf.new h⟩
def ZiS:TE:=fun _ H Q=>∀p,H p=none->Q (.ref p) (upd H p (.dK []))
section
variable {X:Cx} {pos:Pos}
theorem Zh1:PE X (.Dict [] [] pos) ZiS:=fun Za s σ H Q I h=>
 wpAny_Dict_empty ⟨.ref s.heap.objs.size,_,I.laid (a:=s.heap.objs.size) (o:=.dK []) (t':=s.toks) (fun _ _ q=>Heap.get?_push_of_some _ q) (Nat.le_refl _) (Zmv s.heap I.big),rfl,h _ (I.hok.fresh (Nat.le_refl _))⟩
end
structure M1 (X:Cx) (o:Expr) (m:Str) (apos:Pos) (e:Expr) (cpos:Pos):Prop where
 base:attributeBase o m X.env (eval o X.env)=eval o X.env
 few:((backTo cpos (starEach [e] X.env)).all (fun x=> !x.1) && (backToKw cpos (keywordEach [] X.env)).all (fun x=>x.1.isSome)
  && decide (([e]:List Expr).length+([]:List Keyword).length+(if ([]:List Keyword).isEmpty then 0 else 1)<30))=true
 line:(apos.endLine==cpos.line)=true
 trees:backTo cpos (starEach [e] X.env)=[(false,eval e X.env)]
structure M2 (X:Cx) (o:Expr) (m:Str) (apos:Pos) (e f:Expr) (cpos:Pos):Prop where
 base:attributeBase o m X.env (eval o X.env)=eval o X.env
 few:((backTo cpos (starEach [e,f] X.env)).all (fun x=> !x.1) && (backToKw cpos (keywordEach [] X.env)).all (fun x=>x.1.isSome)
  && decide (([e,f]:List Expr).length+([]:List Keyword).length+(if ([]:List Keyword).isEmpty then 0 else 1)<30))=true
 line:(apos.endLine==cpos.line)=true
 trees:backTo cpos (starEach [e,f] X.env)=[(false,eval e X.env),(false,eval f X.env)]
end L2
namespace LP
open PySem L2
theorem ZbX {α:Type} (l:List α) (i:Nat):cut l (some (i:Int)) none=l.drop i:=by
 unfold cut
 show (l.drop (if (i:Int)<0 then ((i:Int)+(l.length:Int)).toNat else min (i:Int).toNat l.length)).take (l.length-(if (i:Int)<0 then ((i:Int)+(l.length:Int)).toNat else min (i:Int).toNat l.length))=l.drop i
 rw [if_neg (by omega),Int.toNat_natCast]
 by_cases h:i<=l.length
 ·rw [Nat.min_eq_left h,List.take_of_length_le (by rw [length_drop];omega)]
 ·rw [Nat.min_eq_right (by omega),List.drop_eq_nil_of_le (Nat.le_refl _),List.drop_eq_nil_of_le (by omega)]
  simp
theorem qc {α:Type} (f:Nat->α) {m i:Nat} (d:α) (h:i<m):((List.range m).map f).getD i d=f i:=by
 rw [List.getD_eq_getElem?_getD,List.getElem?_map,List.getElem?_range h]
 rfl
theorem Zj4 (n:Nat):Za8 0 ((n:Int)+1)=(List.range (n+1)).map fun j:Nat=>V.int j:=by
 unfold Za8
 rw [show (((n:Int)+1)-0).toNat=n+1 by omega]
 refine map_congr_left fun j _=>?_
 rw [Int.zero_add]
end LP
namespace L2
open PySem PySem.Spec PyProof.Rows
structure Md (P:Program) (w:World) (K:PySem.W.Frag) (mg:Str->Option Value) (base:Heap) (CX:CXT) (k:Nat) (C:Addr) (m:Str) (ps:List Str) (dvs:List V) (sp:Sp):Prop where
 ex:∃f fd ds,Z4 P w K mg base CX k f fd ps sp/\Zwg K C m f/\J8 K fd ps ds/\ZD dvs ds
 cls:Cls K C
structure Mkr (P:Program) (w:World) (K:PySem.W.Frag) (mg:Str->Option Value) (base:Heap) (CX:CXT) (k:Nat) (x:Str) (C:Addr) (ps:List Str) (dvs:List V) (sp:Sp):Prop where
 ex:∃f fd ds,Z4 P w K mg base CX k f fd ps sp/\Mk K C f/\J8 K fd ps ds/\ZD dvs ds
 at_:mg x=some (.ref C)
section
variable {P:Program} {w:World} {K:PySem.W.Frag} {mg:Str->Option Value} {base:Heap} {CX:CXT} {j k:Nat} {C:Addr} {x m:Str} {ps:List Str} {dvs:List V} {sp:Sp}
theorem Zui {f:Addr} {fd:FuncData} (F:Z4 P w K mg base (CX1 P w) k f fd ps sp):Z4 P w K mg base CX0 k f fd ps (fun vs H Q _=>sp vs H Q E0):=by
 refine ⟨fun vs H Q E h=>F.len vs H Q E0 h,fun A outer s H args us vs Q E hr e0 hb rv h=>?_⟩
 refine codeAny_mono (F.run A outer s H args us vs Q E0 hr e0 hb rv h) fun r s' q=>?_
 cases r with
 |error e=>exact (ZmX q).elim
 |ok fl=>cases fl<;>exact q
theorem Md.quiet (M:Md P w K mg base (CX1 P w) k C m ps dvs sp):Md P w K mg base CX0 k C m ps dvs (fun vs H Q _=>sp vs H Q E0):=by
 obtain ⟨f,fd,ds,F,r⟩:=M.ex
 exact ⟨⟨f,fd,ds,Zui F,r⟩,M.cls⟩
end
section
variable {X:Cx} {k:Nat} {C:Addr} {x m:Str} {ps:List Str} {dvs:List V} {sp:Sp} {o e:Expr} {es:List Expr} {ta:TE} {t:TA} {p pos apos:Pos}
theorem ZrT {pl:Sem Bool} (M:Md X.prog X.w X.K X.mg X.base CX0 k C m ps dvs sp) (hr:YD k X.A) (he:PE X o ta) (ha:PA X (e::es) t)
 (hst:starEach (e::es) X.env=(false,eval e X.env)::starEach es X.env:=by rfl) (hpl:(backTo pos (starEach es X.env)).any (·.1)=false:=by rfl)
 (ht:eval (.Call (.Attribute o m apos) (e::es) [] pos) X.env=(do
  let ov <-eval o X.env
  standAt apos.atName
  let (f,first) <-holding [ov] (getMethod ov m pl)
  callWith pos f first (backTo pos (starEach (e::es) X.env)) (backToKw pos (keywordEach [] X.env))):=by rfl):PE X (.Call (.Attribute o m apos) (e::es) [] pos) (Zjn C m sp dvs E0 ta t):=by
 obtain ⟨f,fd,ds,F,hm,hb,hd⟩:=M.ex
 exact ZqN he M.cls hm F hr hb hd ZmC ha hst hpl ht
variable {F:St->XK}
theorem ZpH {Za:List (Addr×Obj)} {σ:St} {H:Hp} {s:Shared} {Q:VK} {us:List Value} {vs:List V} {f:Addr} {fd:FuncData} {ds:List Value} (T:Tk X F) (G:Z4 X.prog X.w X.K X.mg X.base (CX1 X.prog X.w) k f fd ps sp) (hr:YD k X.A) (hb:J8 X.K fd ps ds) (hd:ZD dvs ds)
 (I:Inv X Za σ H s) (r:ZD vs us) (h:sp (vs++dvs) H Q (F σ)):wpAny (model X.prog X.w) X.A (call (.ref f) us) (EP X Za σ Q) X.xe s:=by
 have r2:ZD (vs++dvs) (us++ds):=r.append hd
 have hl:(us++ds).length=ps.length:=by rw [<-r2.length];exact G.len _ _ _ _ h
 refine wpAny_call (codeAny_mono (G.run X.A X.stack s H ⟨us,[]⟩ (us++ds) (vs++dvs) Q (F σ) hr I.env0 (hb s us I.kIn hl) r2 h) fun r s' hq=>?_)
 cases r with
 |error e=>exact T.pass Za σ H s e s' I hq
 |ok fl=>
  cases fl with
  |ret u=>exact I.after hq
  |next=>exact False.elim hq
  |brk=>exact False.elim hq
  |cont=>exact False.elim hq
def Ze8 (F:St->XK) (C:Addr) (m:Str) (sp:Sp) (dvs:List V) (ta:TE) (t:TA):TE:=fun σ H Q=>ta σ H fun x H1=>∃a dx fs,x=.ref a/\H1 a=some (.ins C dx fs)/\fs.lookup m=none/\t σ H1 fun vs H2=>sp (x::(vs++dvs)) H2 Q (F σ)
theorem Zfe {pl:Sem Bool} (T:Tk X F) (M:Md X.prog X.w X.K X.mg X.base (CX1 X.prog X.w) k C m ps dvs sp) (hr:YD k X.A) (he:PE X o ta) (ha:PA X (e::es) t)
 (hst:starEach (e::es) X.env=(false,eval e X.env)::starEach es X.env:=by rfl) (hpl:(backTo pos (starEach es X.env)).any (·.1)=false:=by rfl)
 (ht:eval (.Call (.Attribute o m apos) (e::es) [] pos) X.env=(do
  let ov <-eval o X.env
  standAt apos.atName
  let (f,first) <-holding [ov] (getMethod ov m pl)
  callWith pos f first (backTo pos (starEach (e::es) X.env)) (backToKw pos (keywordEach [] X.env))):=by rfl):PE X (.Call (.Attribute o m apos) (e::es) [] pos) (Ze8 F C m sp dvs ta t):=by
 obtain ⟨f,fd,ds,G,hm,hb,hd⟩:=M.ex
 intro Za s σ H Q I h
 refine methodCall_KW (pl:=pl) (thn (he Za s σ H _ I h) fun u s1 ⟨x,H1,I1,rx,a,dx,fs,ex,ea,l,q⟩=>?_) ht
 subst ex
 obtain rfl:u=Value.ref a:=rx
 refine Zfd I1 ea M.cls hm l ?_
 refine callWith_K (first:=[.ref a]) (h₀:=X.base) I.ok.mod.kin hm.kp (thn (ha pos Za s1 σ H1 _ I1 q) fun us s2 ⟨vs,H2,I2,r,q2⟩=>⟨I2.kIn,?_⟩) hst hpl
 exact ZpH (us:=.ref a::us) (vs:=.ref a::vs) T G hr hb hd I2 (.cons rfl r) q2
def Zil (F:St->XK) (C:Addr) (sp:Sp) (dvs:List V) (t:TA):TE:=fun σ H Q=>t σ H fun vs H1=>∀x dx,H1 x=none->H1 dx=none->dx≠x->
 sp (.ref x::(vs++dvs)) (upd (upd H1 dx (.own x)) x (.ins C dx [])) (fun v H2=>v=.non/\Q (.ref x) H2) (F σ)
theorem Zna (T:Tk X F) (M:Mkr X.prog X.w X.K X.mg X.base (CX1 X.prog X.w) k x C ps dvs sp) (hr:YD (k+1) X.A) (ha:PA X (e::es) t) (hg:Gl X x:=by rfl) (hdb:(x==("__debug__":Str))=false:=by decide)
 (he:starEach (e::es) X.env=(false,eval e X.env)::starEach es X.env:=by rfl) (hpl:(backTo pos (starEach es X.env)).any (·.1)=false:=by rfl):PE X (.Call (.Name x p) (e::es) [] pos) (Zil F C sp dvs t):=by
 obtain ⟨f,fd,ds,G,hm,hb,hd⟩:=M.ex
 intro Za s σ H Q I h
 refine wpAny_Call_Name_kw (Zbq I hg M.at_ ?_ hdb)
 refine callWith_K (h₀:=X.base) I.ok.mod.kin hm.kp (thn (ha pos Za s σ H _ I h) fun us s1 ⟨vs,H1,I1,r,q⟩=>⟨I1.kIn,?_⟩) he hpl
 have hq:=q (s1.heap.objs.size+1) s1.heap.objs.size (I1.hok.fresh (Nat.le_succ _)) (I1.hok.fresh (Nat.le_refl _)) (Nat.ne_of_lt (Nat.lt_succ_self _))
 have I2:=Inv.made (C:=C) I1
 have r2:ZD (V.ref (s1.heap.objs.size+1)::(vs++dvs)) (Value.ref (s1.heap.objs.size+1)::(us++ds)):=.cons rfl (r.append hd)
 have hl:(Value.ref (s1.heap.objs.size+1)::us++ds).length=ps.length:=by
  have e:=r2.length
  rw [G.len _ _ _ _ hq] at e
  exact e.symm
 refine wpAny_call (Zhn (f:=f) I1.kIn hm.makes hm.init (beq_iff_eq.mp hm.fn) (codeAny_mono (G.run _ X.stack _ _ ⟨Value.ref (s1.heap.objs.size+1)::us,[]⟩ (Value.ref (s1.heap.objs.size+1)::(us++ds)) _ _ (F σ) (hr.make C us [])
  (I2.env0.make C us []) (hb _ (Value.ref (s1.heap.objs.size+1)::us) I2.kIn hl) r2 hq) fun r s' hq'=>?_))
 cases r with
 |error e=>exact T.pass Za σ _ _ e s' I2 hq'
 |ok fl=>
  cases fl with
  |ret u=>
   obtain ⟨v,H',I3,rv,ev,q3⟩:=I2.after hq'
   subst ev
   exact ⟨rv,⟨V.ref (s1.heap.objs.size+1),H',I3,rfl,q3⟩⟩
  |next=>exact False.elim hq'
  |brk=>exact False.elim hq'
  |cont=>exact False.elim hq'
end
structure ZrE (k:Nat) (A:Around):Prop where
 dp:A.depth+3 * k+5<recursionLimit
 un:A.units+16 * k+200<cLine
structure FnW (P:Program) (w:World) (K:PySem.W.Frag) (mg:Str->Option Value) (base:Heap) (k:Nat) (f:Addr) (fd:FuncData) (ps:List Str) (sp:Sp):Prop where
 len:∀vs H Q E,sp vs H Q E->vs.length=ps.length
 run:∀(A:Around) (outer:List Env) (s:Shared) (H:Hp) (args:Args) (us:List Value) (vs:List V) (Q:VK),ZrE k A->ZgC P w K mg base A outer s H->BindsTo s fd args (ps.zip us)->ZD vs us->sp vs H Q E0->
  codeAny (model P w) A (.call (.ref f) args) (CR CX0 outer P w H s Q E0) s
structure FnV (P:Program) (w:World) (K:PySem.W.Frag) (mg:Str->Option Value) (base:Heap) (k:Nat) (x:Str) (ps:List Str) (sp:Sp):Prop where
 ex:∃f fd,FnW P w K mg base k f fd ps sp/\mg x=some (.ref f)/\keepIn K (.ref f)=true/\J8 K fd ps []
def Zra (t:TS):TS:=fun D σ H=>∃N:St->Hp->Prop,t {nx:=N,rt:=D.rt,bk:=D.bk,ct:=D.ct} σ H/\∀σ' H',N σ' H'->D.nx σ' H'
theorem zI {t:TS} {D:Zbw} {σ:St} {H:Hp} (N:St->Hp->Prop) (h1:t {nx:=N,rt:=D.rt,bk:=D.bk,ct:=D.ct} σ H) (h2:∀σ' H',N σ' H'->D.nx σ' H'):Zra t D σ H:=⟨N,h1,h2⟩
theorem ZK {X:Cx} {st:Stmt} {t:TS} (h:PS X st t):PS X st (Zra t):=by
 rintro Za s σ H D I ⟨N,q,hn⟩
 refine thn (h Za s σ H _ I q) fun f s1 z=>?_
 cases f with
 |next=>obtain ⟨σ1,H1,I1,q⟩:=z;exact ⟨σ1,H1,I1,hn _ _ q⟩
 |brk=>exact z
 |cont=>exact z
 |ret u=>exact z
end L2
namespace LP
theorem Zun {a b:Int} (ha:0<=a) (hb:0<b):a%b<=a:=by
 have h:=Int.emod_add_mul_ediv a b
 have h2:=Int.mul_nonneg (Int.le_of_lt hb) (Int.ediv_nonneg ha (Int.le_of_lt hb))
 omega
open PySem L2
theorem Zkd {α:Type} (l:List α) (i m:Nat):cut l (some (i:Int)) (some ((i:Int)+(m:Int)))=(l.drop i).take m:=by
 unfold cut
 show (l.drop (if (i:Int)<0 then ((i:Int)+(l.length:Int)).toNat else min (i:Int).toNat l.length)).take ((if (i:Int)+(m:Int)<0 then ((i:Int)+(m:Int)+(l.length:Int)).toNat else min ((i:Int)+(m:Int)).toNat l.length)-(if (i:Int)<0 then ((i:Int)+(l.length:Int)).toNat else min (i:Int).toNat l.length))=(l.drop i).take m
 rw [if_neg (by omega),if_neg (by omega),Int.toNat_natCast,show ((i:Int)+(m:Int)).toNat=i+m by omega]
 by_cases h:i<=l.length
 ·rw [Nat.min_eq_left h]
  by_cases h2:i+m<=l.length
  ·rw [Nat.min_eq_left h2,Nat.add_sub_cancel_left]
  ·rw [Nat.min_eq_right (by omega),List.take_of_length_le (by rw [length_drop];omega),List.take_of_length_le (by rw [length_drop];omega)]
 ·have e1:min i l.length=l.length:=by omega
  rw [e1,List.drop_eq_nil_of_le (Nat.le_refl _),List.drop_eq_nil_of_le (by omega)]
  simp
end LP
namespace L2
open PySem PySem.Spec PyProof.Rows
section
variable {X:Cx}
theorem Zkm {elt iter target:Expr} {i₀:Nat} {y₀:Str} {p₀ p₁:Pos} {ifs:List Expr} {scope:Scope} {pos:Pos} {cl:List (Str×Addr)} {own:List Str} {cp:List (Str×Nat)} {wi:TI} {g:TG} {tc:TT} {te:TE}
 (hc:X.calm=true) (hcl:Ja scope.names X.env.cells []=some cl) (hk:scope.kind=.function) (hnc:∀y∈scope.names,y.2≠ .cell)
 (hnm:∀x∈scope.names,x.2=.local->scope.names.lookup x.1=some .local) (hcp:Zam X scope cp) (hi:PI X target iter wi) (gk:ZjG own.length g)
 (hg:∀fp C s H,PG (cxC X scope cl (own++cp.map (·.1)) fp C s H) target g) (ht:∀fp C s H,PFs (cxC X scope cl (own++cp.map (·.1)) fp C s H) ifs tc) (he:∀fp C s H,PE (cxC X scope cl (own++cp.map (·.1)) fp C s H) elt te)
 (hN:X.N.Nodup) (hi₀:X.N[i₀]?=some y₀) (hx₀:X.env.scope.names.lookup y₀=some .local) (hsw:swapsWith (.ListComp elt [⟨target,iter,ifs,0⟩] scope pos) (some (.Name y₀ p₀)) p₁.line X.env=pure true)
 (hs:∀x,foldedSetIterable iter X.env x=pure x:=by intro _;rfl):PS X (.Assign [.Name y₀ p₀] (.ListComp elt [⟨target,iter,ifs,0⟩] scope pos) p₁) (Z3 (Zrx own.length cp wi g tc te) (Zz i₀)):=by
 intro Za s σ H D I h
 rw [exec_Assign_Name_used _ _ _ _ hsw]
 refine wpAny_bind (wpAny_standAt (wpAny_bind ?_))
 show wpAny _ _ (comprehension (.ListComp elt [⟨target,iter,ifs,0⟩] scope pos) scope X.env (firstIterPos [⟨target,iter,ifs,0⟩] pos) (newList []) false (eval iter X.env) (some (assign (.Name y₀ p₀) X.env)) >>=fun _=>pure ()) _ _ s
 refine wpAny_bind ?_
 refine wpAny_comprehension_free (use:=some (assign (.Name y₀ p₀) X.env)) rfl hs (Zae hcl) hk hnm (thn (hi Za s σ H _ I h) fun xv s1 h1=>thn h1 fun itv s2 h2=>?_)
 obtain ⟨it,fp,tn,J,H2,e,I2,Tn,st2,f2,W,⟨m0,w0⟩,turn⟩:=h2
 subst e
 have hlt:∀b∈fp,b<s2.heap.objs.size:=fun b hb=>by
  obtain ⟨o,e,_⟩:=Tn.obj _ _ st2 b hb
  exact Heap.lt_size e
 refine wpAny_newObj_type (wpAny_newFunctionEnv hnc (by intro y hy;simp at hy) (fun h1 hns hsb=>?_) hk)
 dsimp only at hns hsb ⊢
 generalize hP:s2.heap.push {cls:=.type "list",dict:=none,data:=.seq ([]:List Value).toArray}=h0 at hns hsb ⊢
 have hCs:h0.objs.size=s2.heap.objs.size+1:=by rw [<-hP,Heap.size_push]
 generalize hCg:h0.objs.size=C at hns hsb hCs ⊢
 have hC:s2.heap.objs.size<C:=by omega
 have neC:∀b:Addr,b<s2.heap.objs.size->b≠C:=fun b h=>Nat.ne_of_lt (Nat.lt_trans h hC)
 have old:∀b o,s2.heap.get? b=some o->h1.get? b=some o:=fun b o e=>
  (hsb.2 b (neC b (Heap.lt_size e))).trans (by rw [Heap.get?_push_of_some _ (by rw [<-hP];exact Heap.get?_push_of_some _ e)])
 have hD:h1.get? s2.heap.objs.size=some (Zau [] 0):=
  (hsb.2 _ (Nat.ne_of_lt hC)).trans (by rw [Heap.get?_push_of_some _ (by rw [<-hP];exact Heap.get?_push_size _ rfl)])
 have fpok:∀{its:List Value} {k:Nat} {H':Hp},(∀b∈fp,H' b=none)->∀b∈fp,Zcu (cxC X scope cl (own++cp.map (·.1)) fp C s2 H2) [(s2.heap.objs.size,Zau its k)] H' b:=fun {its k H'} fr b hb=>by
  refine ⟨fr b hb,neC b (hlt b hb),fun hf=>?_,.inl hb,fun x c e=>?_,fun p hp=>?_⟩
  ·have hf:b∈frs X.stack:=hf
   rcases mem_cons.mp (I2.stkSub b hf) with z|z
   ·exact (f2 b hb).2.1 z
   ·exact (f2 b hb).2.2.1 z
  ·exact (f2 b hb).2.2.2.2.1 x c ((qG scope.names [] hcl (fun x c h=>by simp at h)).1 x c e)
  ·have hp:p∈[(s2.heap.objs.size,Zau its k)]:=hp
   cases mem_singleton.mp hp
   exact Nat.ne_of_gt (hlt b hb)
 have loop:∀s4:Shared,s4= {s2 with heap:=h1,toks:=s2.toks+([]:List (Str×Value)).length}->
  codeAny (model X.prog X.w) X.A (.compLoop (.ListComp elt [⟨target,iter,ifs,0⟩] scope pos) 0 (.ref it) (.ref s2.heap.objs.size) (compEnvC scope cl C X.env))
   (compPost (model X.prog X.w) X.A X.xe (some (assign (.Name y₀ p₀) X.env)) (fun _ s'=>wpAny (model X.prog X.w) X.A (pure ()) (fun _ s''=>wpAny (model X.prog X.w) X.A (pure Flow.next) (SP X Za D) X.xe s'') X.xe s') (.ref s2.heap.objs.size) C) s4:=by
  intro s4 e4
  have I4:Inv (cxC X scope cl (own++cp.map (·.1)) fp C s2 H2) [(s2.heap.objs.size,Zau [] 0)] (J6 own.length cp σ) H2 s4:=by
   rw [e4]
   exact ZeA I2 hcl hk hnc hcp f2 hC hlt (by simpa using hns) old hD
  have st4:tn 0 s4.heap:=by
   rw [e4]
   exact Tn.keep _ _ _ st2 fun b _ o e=>old b o e
  refine codeAny_loop rfl (fun n s'=>∃i H' acc its k,Inv (cxC X scope cl (own++cp.map (·.1)) fp C s2 H2) [(s2.heap.objs.size,Zau its k)] (J6 own.length cp σ) H' s'/\ZD acc its/\tn i s'.heap/\(∀b∈fp,H' b=none)/\W i n H' acc)
   (fun n s' hI=>?_) m0 ⟨0,H2,[],[],0,I4,.nil,st4,fun b hb=>(f2 b hb).1,w0⟩
  obtain ⟨i,H',acc,its,k,I',rv,st,fr,w⟩:=hI
  show wpAny _ X.A ((compTurn (.ListComp elt [⟨target,iter,ifs,0⟩] scope pos) 0 (.ref it) (.ref s2.heap.objs.size) (compEnvC scope cl C X.env)).onRaise (fun x=>do noteFrame x (compEnvC scope cl C X.env);theTreesLotGoes x)) _ _ s'
  refine wpAny_noted ?_
  rw [compTurn_list]
  refine wpAny_bind (wpAny_standAt (wpAny_bind ?_))
  obtain ⟨hz,⟨stop,fin⟩|⟨go,step⟩⟩:=turn i n H' acc w
  ·refine Zd7 (Tn.done (cxC X scope cl (own++cp.map (·.1)) fp C s2 H2) rfl rfl rfl hc i _ s' _ H' (fun _ _=>False) I' (fpok fr) st stop) fun r s5 ⟨hr,I5⟩=>?_
   subst hr
   refine wpAny_pure ?_
   obtain ⟨mm,hmm,_⟩:=I5.loc
   have hmm:s5.heap.Ns C mm:=hmm
   obtain ⟨hn,I6⟩:=Zh2 (h'':=s5.heap) I2 f2 rfl hC I5 rv (Nat.le_of_lt hz) ⟨rfl,fun _ _=>rfl⟩
   obtain ⟨oC,eC,pC,g1,g2,g3⟩:=id hmm
   have hC2:s2.heap.objs.size<=C:=Nat.le_of_lt hC
   have fC:Zcu X Za (upd H' s2.heap.objs.size (.lst acc)) C:=I2.fpOk hC2 (by rw [Zn (Nat.ne_of_gt hC)];exact I5.free)
   have I7:Inv X (Za++[(C,oC)]) σ (upd H' s2.heap.objs.size (.lst acc)) s5:=I6.pins_of fun p hp=>by
    rcases mem_append.mp hp with hp|hp
    ·exact I6.pin p (mem_append_right _ hp)
    ·cases mem_singleton.mp hp
     exact ⟨g1,fC.1,fC.2.1,fC.2.2.1,fun v z=>by rw [g2] at z;cases z⟩
   refine wpAny_assign_Name (ZbM I7 hN hi₀ (.inl hx₀) (show Z2 (.ref s2.heap.objs.size) (.ref s2.heap.objs.size) from rfl) (fun s6 I8=>?_) (.inr hx₀))
   have e6:=(I8.pin (C,oC) (mem_append_right _ (mem_append_right _ (mem_singleton.mpr rfl)))).1
   refine ⟨mm,⟨oC,eC,pC,e6,g2,g3⟩,fun h'' hs''=>wpAny_pure (wpAny_pure ⟨_,_,I8.unpinned.turned (t':=s6.toks) (it:=C) (fun b o hb e=>(hs''.2 b hb).trans e) fC.1 fC.2.1 fC.2.2.2.1 fC.2.2.2.2.1 fC.2.2.2.2.2,fin _ hn⟩)⟩
  ·refine Zd7 (Tn.item (cxC X scope cl (own++cp.map (·.1)) fp C s2 H2) rfl rfl rfl hc i _ s' _ H' (fun _ _=>False) I' (fpok fr) st go) fun r s5 ⟨u,hr,h5⟩=>?_
   subst hr
   refine wpAny_bind (Zd7 h5 fun _ s6 ⟨x,H6,I6,r6,y6,st6,fr6⟩=>?_)
   have I6':=I6.pinned (fpok fr6) (Tn.obj _ _ st6)
   refine wpAny_bind (Zd7 (hg fp C s2 H2 _ s6 _ H6 x u _ I6' r6 (gk _ _ _ _ (step x H6 y6))) fun _ s7 ⟨σ7,H7,I7,q7,kp7⟩=>?_)
   refine wpAny_bind (Zd7 (ht fp C s2 H2 _ s7 σ7 H7 _ I7 q7) fun b s8 ⟨H8,I8,q8⟩=>?_)
   have weak:∀{H9:Hp} {s9:Shared} {ps:List (Addr×Obj)},Inv (cxC X scope cl (own++cp.map (·.1)) fp C s2 H2) ps σ7 H9 s9->Inv (cxC X scope cl (own++cp.map (·.1)) fp C s2 H2) ps (J6 own.length cp σ) H9 s9:=fun {H9 s9 ps} I9=>
    I9.weak (by rw [I9.len];exact I'.len) fun j v e=>by
     by_cases hj:own.length<=j
     ·rw [kp7 j hj]
      exact e
     ·unfold J6 at e
      rw [List.getElem?_append_left (by rw [length_replicate];omega),List.getElem?_replicate] at e
      split at e<;>cases e
   have turned:∀{H9:Hp} {s9:Shared},Inv (cxC X scope cl (own++cp.map (·.1)) fp C s2 H2) ([(s2.heap.objs.size,Zau its k)]++J3 fp s6.heap) σ7 H9 s9->(∀b∈fp,H9 b=none)/\∀b∈fp,∀o,s6.heap.get? b=some o->s9.heap.get? b=some o:=fun {H9 s9} I9=>by
    refine ⟨fun b hb=>?_,fun b hb o e=>?_⟩
    ·obtain ⟨o,e,_⟩:=Tn.obj _ _ st6 b hb
     exact (I9.pin (b,o) (mem_append_right _ (mem_append_right _ (JK hb e)))).2.1
    ·exact (I9.pin (b,o) (mem_append_right _ (mem_append_right _ (JK hb e)))).1
   cases b with
   |false=>
    obtain ⟨m',hm',w8⟩:=q8
    refine wpAny_pure ⟨rfl,m',hm',i+1,H8,acc,its,k,weak I8.unpinned,rv,Tn.keep _ _ _ st6 (turned I8).2,(turned I8).1,w8⟩
   |true=>
    refine wpAny_bind (wpAny_bind (Zd7 (he fp C s2 H2 _ s8 σ7 H8 _ I8 q8) fun uy s9 ⟨y,H9,I9,r9,m',hm',w9⟩=>?_))
    have pD:=I9.pin (s2.heap.objs.size,Zau its k) (mem_append_right _ (mem_append_left _ (mem_singleton.mpr rfl)))
    have lenI:=rv.length
    refine wpAny_bind (wpAny_list_append_plain (items:=its.toArray) ⟨k,pD.1⟩ (fun h10 pl sb=>?_) (by rw [size_toArray];omega))
    obtain ⟨k',hk'⟩:=pl
    have I10:Inv (cxC X scope cl (own++cp.map (·.1)) fp C s2 H2) (J3 fp s6.heap) σ7 H9 {s9 with heap:=h10}:=by
     have I9':Inv (cxC X scope cl (own++cp.map (·.1)) fp C s2 H2) (J3 fp s6.heap) σ7 H9 s9:=I9.pins_of fun p hp=>I9.pin p (mem_append_right _ (mem_append_right _ hp))
     refine I9'.turned (t':=s9.toks) (it:=s2.heap.objs.size) (fun b o hb e=>(sb.2 b hb).trans e) pD.2.1 pD.2.2.1 (.inr (Nat.le_refl _)) (fun x c e z=>?_) fun p hp z=>?_
     ·obtain ⟨v,o,ho,hd⟩:=I9.cell x c e
      rw [z,pD.1] at ho
      cases ho
      cases hd
     ·have hp:p∈J3 fp s6.heap:=hp
      exact Nat.ne_of_lt (hlt p.1 (ZdC hp).1) z
    have kk:∀b∈fp,∀o,s6.heap.get? b=some o->h10.get? b=some o:=fun b hb o e=>(sb.2 b (Nat.ne_of_lt (hlt b hb))).trans ((turned I9).2 b hb o e)
    have I11:Inv (cxC X scope cl (own++cp.map (·.1)) fp C s2 H2) [(s2.heap.objs.size,Zau (its++[uy]) k')] σ7 H9 {s9 with heap:=h10}:=I10.pins_of fun p hp=>by
     cases mem_singleton.mp hp
     refine ⟨?_,pD.2.1,pD.2.2.1,pD.2.2.2.1,fun v z=>by cases z⟩
     rw [hk']
     simp
    exact wpAny_pure (wpAny_pure ⟨rfl,m',hm',i+1,H9,acc++[y],its++[uy],k',weak I11,rv.append (.cons r9 .nil),Tn.keep _ _ _ st6 kk,(turned I9).1,w9⟩)
 exact codeAny_compStart_list (loop _ rfl) (Tn.self _ 0 _ _ _ (Tn.keep _ _ _ st2 fun b _ o e=>old b o e) (loop _ rfl))
theorem Zmk {i₀:Nat} {y₀:Str} {p₀ p₁:Pos} {K:PySem.W.Frag} {elt iter:Expr} {ifs:List Expr} {x:Str} {px:Pos} {scope:Scope} {pos:Pos} {cl:List (Str×Addr)} {own:List Str} {cp:List (Str×Nat)} {tl:TE} {tc:TT} {te:TE} (hK:X.K=K)
 (hc:X.calm=true) (hcl:Ja scope.names X.env.cells []=some cl) (hk:scope.kind=.function) (hnc:∀y∈scope.names,y.2≠ .cell)
 (hnm:∀x∈scope.names,x.2=.local->scope.names.lookup x.1=some .local) (hcp:Zam X scope cp) (hl:PE X iter tl) (hn:0<own.length)
 (hg:∀fp C s H,PG (cxC X scope cl (own++cp.map (·.1)) fp C s H) (.Name x px) (Zz 0)) (ht:∀fp C s H,PFs (cxC X scope cl (own++cp.map (·.1)) fp C s H) ifs tc) (he:∀fp C s H,PE (cxC X scope cl (own++cp.map (·.1)) fp C s H) elt te)
 (hN:X.N.Nodup) (hi₀:X.N[i₀]?=some y₀) (hx₀:X.env.scope.names.lookup y₀=some .local) (hsw:swapsWith (.ListComp elt [⟨.Name x px,iter,ifs,0⟩] scope pos) (some (.Name y₀ p₀)) p₁.line X.env=pure true:=by rfl)
 (hs:∀z,foldedSetIterable iter X.env z=pure z:=by intro _;rfl):PS X (.Assign [.Name y₀ p₀] (.ListComp elt [⟨.Name x px,iter,ifs,0⟩] scope pos) p₁) (Z3 (tCL K own.length cp tl tc te) (Zz i₀)):=by
 subst hK
 have hl':PE X iter (fun σ H Q=>∃Q0:VK,tl σ H Q0/\∀v H',Q0 v H'->Q v H'):=hl.imp fun σ H Q h=>h
 intro Za s σ H D I h
 refine Zkm hc hcl hk hnc hnm hcp (ZcP hl') (ZgZ hn) hg (fun fp C s H=>(ht fp C s H).imp (t':=Zlg tc) fun _ _ _ z=>z) (fun fp C s H=>(he fp C s H).imp (t':=ZkT te) fun _ _ _ z=>z) hN hi₀ hx₀ hsw hs Za s σ H D I ?_
 refine ⟨_,h,fun v H1 q=>?_⟩
 cases v with
 |ref a=>
  obtain ⟨xs,hx,hz,Pv,p0,pl,ps,pe⟩:=q
  have hsl:sizeLine=16777216:=sizeLine_eq
  refine ⟨a,rfl,⟨xs,hx⟩,fun i m H2 acc=>m=xs.length-i/\i<=xs.length/\acc.length<=i/\Pv i H2 acc,⟨xs.length,by omega,Nat.zero_le _,Nat.le_refl _,p0⟩,?_⟩
  rintro i m H2 acc ⟨rfl,hi,hla,pv'⟩
  refine ⟨by omega,?_⟩
  have hx2:=pl i H2 acc hi pv'
  by_cases hlt:i<xs.length
  ·refine .inr ⟨⟨xs,xs[i],hx2,by simp [hlt]⟩,fun y H3 ⟨e3,ey⟩=>?_⟩
   subst e3
   exact ZbC (N':=fun H a=>∃m',m'<xs.length-i/\(m'=xs.length-(i+1)/\i+1<=xs.length/\a.length<=i+1/\Pv (i+1) H a)) (fun H a ha z=>⟨xs.length-(i+1),by omega,rfl,hlt,by omega,z⟩) (ps i y H3 acc (ey xs hx2) pv')
  ·have e:i=xs.length:=by omega
   subst e
   exact .inl ⟨⟨xs,hx2,Nat.le_refl _⟩,fun l hl'=>pe H2 acc pv' l hl'⟩
 |_=>exact False.elim q
end
end L2
namespace LO
def ltk (t:List Nat) (k:Nat):List Nat:=((ord t).take k).filterMap (Zcq t)
theorem Zec (t:List Nat) {n:Nat} (h:t.length+1<=n):ltk t n=Z5 t:=by
 unfold ltk Z5
 rw [List.take_of_length_le (by rw [JI];exact h)]
theorem Zhx {t:List Nat} {k:Nat} (h:(ord t)[k]?=some 0):ltk t (k+1)=ltk t k:=by
 unfold ltk
 rw [List.take_succ,h,List.filterMap_append]
 simp [Zcq]
theorem Zhp {t:List Nat} {k j:Nat} (h:(ord t)[k]?=some j) (hj:0<j):ltk t (k+1)=ltk t k++[t.getD (j-1) 0]:=by
 have hm:j<=t.length:=Zaf.mp (List.mem_of_getElem? h)
 have e:Zcq t j=some (t.getD (j-1) 0):=by
  unfold Zcq
  rw [if_neg (by omega),List.getD_eq_getElem?_getD,List.getElem?_eq_getElem (by omega)]
  rfl
 unfold ltk
 rw [List.take_succ,h,List.filterMap_append]
 simp [e]
theorem Zkp (t:List Nat) (k:Nat):(ltk t k).length<=k:=by
 unfold ltk
 exact Nat.le_trans (List.length_filterMap_le _ _) (by rw [length_take];omega)
theorem Zp6 (t:List Nat):((ord t).map fun i:Nat=>L2.V.int i)=((ord t).map fun i:Nat=>(i:Int)).map L2.V.int:=by
 rw [map_map]
 rfl
theorem ZeY (t:List Nat):(0:Int)∈(ord t).map fun i:Nat=>(i:Int):=List.mem_map.mpr ⟨0,Zaf.mpr (Nat.zero_le _),rfl⟩
theorem Zhk (t:List Nat):((ord t).map fun i:Nat=>(i:Int)).idxOf 0=Zdg t:=by
 have hlt:=List.idxOf_lt_length_of_mem (ZeY t)
 have hk:=List.getElem_idxOf hlt
 rw [List.getElem_map] at hk
 refine (Zgf (l:=t) (k:=((ord t).map fun i:Nat=>(i:Int)).idxOf 0) (j:=0) ?_).symm
 rw [List.getElem?_eq_getElem (by simpa using hlt)]
 congr 1
 omega
theorem Zqo (t:List Nat):(ord t)[Zdg t]?=some 0:=Zg4 (Nat.zero_le _)
theorem ZqR (t:List Nat):Zdg t<t.length+1:=ZpO (Nat.zero_le _)
end LO
namespace L2
open PySem PySem.Spec PyProof.Rows
inductive EqT (K:PySem.W.Frag) (H:Hp):Nat->V->V->Prop
 |flat {n:Nat} {x y:V} (hx:Jx x=true) (hy:Jx y=true) (h:eqV x y=true):EqT K H n x y
 |same {n:Nat} (a:Addr):EqT K H n (.ref a) (.ref a)
 |tup {n:Nat} {a b:Addr} {xs ys:List V} (ha:SqT K H a xs) (hb:SqT K H b ys) (hl:xs.length=ys.length) (h:∀(j:Nat) (x y:V),xs[j]?=some x->ys[j]?=some y->EqT K H n x y):EqT K H (n+1) (.ref a) (.ref b)
 |lst {n:Nat} {a b:Addr} {xs ys:List V} (ha:SqL K H a xs) (hb:SqL K H b ys) (hl:xs.length=ys.length) (h:∀(j:Nat) (x y:V),xs[j]?=some x->ys[j]?=some y->EqT K H n x y):EqT K H (n+1) (.ref a) (.ref b)
section
variable {X:Cx} {Za:List (Addr×Obj)} {σ:St} {H:Hp} {s:Shared}
theorem Zai {xs ys:List V} {us vs:List Value} (r1:ZD xs us) (r2:ZD ys vs) (j:Nat) (h1:j<us.length) (h2:j<vs.length):∃x y,xs[j]?=some x/\ys[j]?=some y/\Z2 x us[j]/\Z2 y vs[j]:=by
 have l1:=r1.length
 have l2:=r2.length
 have e1:xs[j]?=some xs[j]:=by simp [l1,h1]
 have e2:ys[j]?=some ys[j]:=by simp [l2,h2]
 obtain ⟨u,hu,ru⟩:=r1.get e1
 obtain ⟨v,hv,rv⟩:=r2.get e2
 rw [List.getElem?_eq_getElem h1] at hu
 rw [List.getElem?_eq_getElem h2] at hv
 have hu:=Option.some.inj hu
 have hv:=Option.some.inj hv
 subst hu hv
 exact ⟨_,_,e1,e2,ru,rv⟩
theorem Za3 (n:Nat):(List.range n).all (fun _=>true)=true:=by
 rw [List.all_eq_true]
 intro _ _
 rfl
theorem EqT.at (I:Inv X Za σ H s) {n:Nat} {x y:V} (h:EqT X.K H n x y):∀{A:Around} {u v:Value},Z2 x u->Z2 y v->A.units+n<cLine->SeqAt.EqAt A s u v true:=by
 induction h with
 |flat hx hy h=>
  intro A u v ru rv _
  have:=Zn5 (A:=A) (s:=s) ru rv hx hy
  rwa [h] at this
 |same a=>
  intro A u v ru rv _
  obtain rfl:u=Value.ref a:=ru
  obtain rfl:v=Value.ref a:=rv
  exact SeqAt.EqAt.same _
 |@tup n a b xs ys ha hb hl h ih=>
  intro A u v ru rv hu
  obtain rfl:u=Value.ref a:=ru
  obtain rfl:v=Value.ref b:=rv
  by_cases hab:a=b
  ·subst hab
   exact SeqAt.EqAt.same _
  obtain ⟨its,r1,p1,z1⟩:=I.tuple ha
  obtain ⟨ist,r2,p2,z2⟩:=I.tuple hb
  have l1:=r1.length
  have l2:=r2.length
  have:=SeqAt.RcAt.tuples (A:=A) (e:=fun _=>true) p1 p2 (by omega) fun j h1 h2=>by
   obtain ⟨x,y,e1,e2,rx,ry⟩:=Zai r1 r2 j (by simpa using h1) (by simpa using h2)
   exact ih j x y e1 e2 rx ry (by rw [Around.in1_units];omega)
  rw [Za3,show (its.toArray.size==ist.toArray.size)=true by simp;omega] at this
  exact SeqAt.EqAt.of_refs hab this
 |@lst n a b xs ys ha hb hl h ih=>
  intro A u v ru rv hu
  obtain rfl:u=Value.ref a:=ru
  obtain rfl:v=Value.ref b:=rv
  by_cases hab:a=b
  ·subst hab
   exact SeqAt.EqAt.same _
  obtain ⟨its,r1,p1,z1⟩:=I.list ha
  obtain ⟨ist,r2,p2,z2⟩:=I.list hb
  have l1:=r1.length
  have l2:=r2.length
  have:=SeqAt.RcAt.lists (A:=A) (e:=fun _=>true) p1.isList p2.isList (by simp;omega) (by omega) fun j h1 h2=>by
   obtain ⟨x,y,e1,e2,rx,ry⟩:=Zai r1 r2 j (by simpa using h1) (by simpa using h2)
   exact ih j x y e1 e2 rx ry (by rw [Around.in1_units];omega)
  rw [Za3] at this
  exact SeqAt.EqAt.of_refs hab this
end
def ZrR (K:PySem.W.Frag) (H:Hp) (a b:Addr):Prop:=∃xs ys,((SqL K H a xs/\SqL K H b ys)\/(SqT K H a xs/\SqT K H b ys))/\xs.length=ys.length/\∀(j:Nat) (x y:V),xs[j]?=some x->ys[j]?=some y->EqT K H 4 x y
def ZiY (K:PySem.W.Frag) (neg:Bool):R2:=fun x y H Q=>match x,y with
 | .ref a,.ref b=>ZrR K H a b/\Q (.bl (!neg)) H
 |_,_=>False
section
variable {X:Cx}
theorem Zz0 {K:PySem.W.Frag} {k:Nat} (hK:X.K=K) (hr:YD k X.A):OpR X (compareOp .Eq) (ZiY K false):=by
 subst hK
 intro Za s σ H x y v u Q I rx ry h
 unfold ZiY at h
 split at h
 ·rename_i a b
  obtain ⟨⟨xs,ys,q12,hl,ha⟩,q⟩:=h
  cases rx
  cases ry
  have hu:X.A.units+20<cLine:=by have:=hr.un;omega
  rcases q12 with ⟨q1,q2⟩|⟨q1,q2⟩
  ·obtain ⟨its,r1,p1,z1⟩:=I.list q1
   obtain ⟨ist,r2,p2,z2⟩:=I.list q2
   have l1:=r1.length
   have l2:=r2.length
   refine SeqAt.eq_listAt (e:=fun _=>true) p1.isList p2.isList (by simp;omega) (by omega) (fun j h1 h2=>?_) ?_
   ·obtain ⟨x,y,e1,e2,rx,ry⟩:=Zai r1 r2 j (by simpa using h1) (by simpa using h2)
    exact (ha j x y e1 e2).at I rx ry (by rw [Around.in1_units];omega)
   ·rw [Za3]
    exact ZV I q rfl
  ·obtain ⟨its,r1,p1,z1⟩:=I.tuple q1
   obtain ⟨ist,r2,p2,z2⟩:=I.tuple q2
   have l1:=r1.length
   have l2:=r2.length
   refine SeqAt.eq_tupleAt (e:=fun _=>true) p1 p2 (by omega) (fun j h1 h2=>?_) ?_
   ·obtain ⟨x,y,e1,e2,rx,ry⟩:=Zai r1 r2 j (by simpa using h1) (by simpa using h2)
    exact (ha j x y e1 e2).at I rx ry (by rw [Around.in1_units];omega)
   ·rw [Za3,show (its.toArray.size==ist.toArray.size)=true by simp;omega]
    exact ZV I q rfl
 ·exact h.elim
theorem ZyR {K:PySem.W.Frag} {k:Nat} (hK:X.K=K) (hr:YD k X.A):OpR X (compareOp .NotEq) (ZiY K true):=by
 subst hK
 intro Za s σ H x y v u Q I rx ry h
 unfold ZiY at h
 split at h
 ·rename_i a b
  obtain ⟨⟨xs,ys,q12,hl,ha⟩,q⟩:=h
  cases rx
  cases ry
  have hu:X.A.units+20<cLine:=by have:=hr.un;omega
  rcases q12 with ⟨q1,q2⟩|⟨q1,q2⟩
  ·obtain ⟨its,r1,p1,z1⟩:=I.list q1
   obtain ⟨ist,r2,p2,z2⟩:=I.list q2
   have l1:=r1.length
   have l2:=r2.length
   refine SeqAt.RcNeAt.lists (e:=fun _=>true) p1.isList p2.isList (by simp;omega) (by omega) (fun j h1 h2=>?_) _ _ _ _ ?_
   ·obtain ⟨x,y,e1,e2,rx,ry⟩:=Zai r1 r2 j (by simpa using h1) (by simpa using h2)
    exact (ha j x y e1 e2).at I rx ry (by rw [Around.in1_units];omega)
   ·rw [Za3]
    exact ZV I q rfl
  ·obtain ⟨its,r1,p1,z1⟩:=I.tuple q1
   obtain ⟨ist,r2,p2,z2⟩:=I.tuple q2
   have l1:=r1.length
   have l2:=r2.length
   refine SeqAt.RcNeAt.tuples (e:=fun _=>true) p1 p2 (by omega) (fun j h1 h2=>?_) _ _ _ _ ?_
   ·obtain ⟨x,y,e1,e2,rx,ry⟩:=Zai r1 r2 j (by simpa using h1) (by simpa using h2)
    exact (ha j x y e1 e2).at I rx ry (by rw [Around.in1_units];omega)
   ·rw [Za3,show (its.toArray.size==ist.toArray.size)=true by simp;omega]
    exact ZV I q rfl
 ·exact h.elim
end
end L2
namespace LP
open PySem L2
def flat (rs:List (Nat×Nat)):List Nat:=(rs.map fun r=>List.replicate r.2 r.1).flatten
structure YS (rs:List (Nat×Nat)):Prop where
 pos:∀r∈rs,1<=r.2
 ne:∀(j:Nat) (a b:Nat×Nat),rs[j]?=some a->rs[j+1]?=some b->a.1≠b.1
def Zat (H:Hp) (ts:List Addr) (rs:List (Nat×Nat)):Prop:=ts.length=rs.length/\∀(j:Nat) (r:Nat×Nat),rs[j]?=some r->∃t,ts[j]?=some t/\H t=some (.tup [.str (T [r.1]),.int r.2])
theorem ZbL (rs:List (Nat×Nat)) (r:Nat×Nat):flat (rs++[r])=flat rs++List.replicate r.2 r.1:=by
 simp [flat]
theorem Zg5 {rs:List (Nat×Nat)} {r:Nat×Nat} (h:r∈rs):r.2<=(flat rs).length:=by
 induction rs with
 |nil=>cases h
 |cons a t ih=>
  have e:flat (a::t)=List.replicate a.2 a.1++flat t:=rfl
  rw [e,length_append,length_replicate]
  rcases mem_cons.mp h with rfl|h
  ·omega
  ·have:=ih h
   omega
theorem Ze3:YS []:=⟨fun _ h=>(List.not_mem_nil h).elim,fun j a b h _=>by simp at h⟩
theorem ZfM {rs:List (Nat×Nat)} {r:Nat×Nat} (g:YS rs) (h1:1<=r.2) (h2:∀a,rs.getLast?=some a->a.1≠r.1):YS (rs++[r]):=by
 refine ⟨fun x hx=>?_,fun j a b ha hb=>?_⟩
 ·rcases mem_append.mp hx with h|h
  ·exact g.pos x h
  ·rw [mem_singleton.mp h]
   exact h1
 ·by_cases hj:j+1<rs.length
  ·rw [List.getElem?_append_left (by omega)] at ha hb
   exact g.ne j a b ha hb
  ·have hl:=(List.getElem?_eq_some_iff.mp hb).1
   rw [length_append,length_singleton] at hl
   have e:j+1=rs.length:=by omega
   rw [List.getElem?_append_right (by omega),e,Nat.sub_self] at hb
   rw [List.getElem?_append_left (by omega)] at ha
   have hb:r=b:=by simpa using hb
   subst hb
   refine h2 a ?_
   rw [List.getLast?_eq_getElem?,<-ha]
   congr 1
   omega
theorem Zem (H:Hp):Zat H [] []:=⟨rfl,fun j r h=>by simp at h⟩
def ZdK (H H':Hp):Prop:=∀t xs,H t=some (.tup xs)->H' t=some (.tup xs)
theorem ZbD {H H':Hp} {ts:List Addr} {rs:List (Nat×Nat)} (h:Zat H ts rs) (sm:ZdK H H'):Zat H' ts rs:=⟨h.1,fun j r hr=>by
 obtain ⟨t,e1,e2⟩:=h.2 j r hr
 exact ⟨t,e1,sm t _ e2⟩⟩
theorem ZbJ {H H':Hp} (sm:Zw H H'):ZdK H H':=fun t xs h=>sm t _ h
theorem ZfH {H:Hp} {p:Addr} {xs:List V} {o:HO} (hp:H p=some (.lst xs)):ZdK H (upd H p o):=fun t ys h=>by
 have:t≠p:=by rintro rfl;rw [hp] at h;cases h
 rw [Zn this]
 exact h
theorem ZdK.trans {H1 H2 H3:Hp} (a:ZdK H1 H2) (b:ZdK H2 H3):ZdK H1 H3:=fun t xs h=>b t xs (a t xs h)
theorem ZdQ {H:Hp} {ts:List Addr} {rs:List (Nat×Nat)} {t:Addr} {r:Nat×Nat} (h:Zat H ts rs) (ht:H t=some (.tup [.str (T [r.1]),.int r.2])):Zat H (ts++[t]) (rs++[r]):=by
 refine ⟨by simp [h.1],fun j x hx=>?_⟩
 by_cases hj:j<rs.length
 ·rw [List.getElem?_append_left hj] at hx
  obtain ⟨u,e1,e2⟩:=h.2 j x hx
  exact ⟨u,by rw [List.getElem?_append_left (by rw [h.1];exact hj)];exact e1,e2⟩
 ·have hl:=(List.getElem?_eq_some_iff.mp hx).1
  rw [length_append,length_singleton] at hl
  have e:j=rs.length:=by omega
  subst e
  rw [List.getElem?_append_right (Nat.le_refl _),Nat.sub_self] at hx
  have hx:r=x:=by simpa using hx
  subst hx
  exact ⟨t,by rw [<-h.1,List.getElem?_append_right (Nat.le_refl _),Nat.sub_self];rfl,ht⟩
theorem Zjv {l:List Nat} {a b c:Nat} (hb:b<=l.length) (hab:a<=b) (h:∀j,a<=j->j<b->l.getD j 0=c):l.take b=l.take a++List.replicate (b-a) c:=by
 refine List.ext_getElem (by simp;omega) fun j h1 h2=>?_
 have hj:j<b:=by rw [length_take] at h1;omega
 rw [List.getElem_take]
 by_cases hja:j<a
 ·rw [List.getElem_append_left (by rw [length_take];omega),List.getElem_take]
 ·rw [List.getElem_append_right (by rw [length_take];omega),List.getElem_replicate]
  have:=h j (by omega) hj
  rwa [List.getD_eq_getElem?_getD,List.getElem?_eq_getElem (by omega)] at this
theorem Zp2 (n c:Nat):rep n [c]=List.replicate n c:=by
 induction n with
 |zero=>rfl
 |succ n ih=>
  rw [replicate_succ,<-ih]
  rfl
end LP
namespace L2
open PySem PySem.Spec PyProof.Rows
theorem z5 {x y:Nat} (h:x≠y):@Ne Addr x y:=h
theorem Zks {n a b:Nat} (la:a<n) (lb:b<n):@ZipApart (n+4:Nat) (n+2:Nat) (n+3:Nat) n (n+1:Nat) a b:=
 ⟨z5 (by omega),z5 (by omega),z5 (by omega),z5 (by omega),z5 (by omega),z5 (by omega),z5 (by omega),z5 (by omega),z5 (by omega),
  z5 (by omega),z5 (by omega),z5 (by omega),z5 (by omega),z5 (by omega),z5 (by omega),z5 (by omega),z5 (by omega),z5 (by omega)⟩
section
variable {X:Cx} {es:List Expr} {k:Nat} {tp:Pos}
abbrev g2 (K:PySem.W.Frag) (i j:Nat):TG:=ZoW K 2 (ZhY (Zz i) (ZhY (Zz j) ZpX))
theorem Zzm {K:PySem.W.Frag} {n i j:Nat} (hi:i<n) (hj:j<n):ZjG n (g2 K i j):=by
 intro x σ H Q q
 obtain ⟨a,xs,e1,e2,e3,v,vr,e4,v',vr',e5,e6,q⟩:=q
 refine ⟨a,xs,e1,e2,e3,v,vr,e4,v',vr',e5,e6,q,fun k hk=>?_⟩
 rw [List.getElem?_set_ne (by omega),List.getElem?_set_ne (by omega)]
section
variable {elt iter:Expr} {ifs:List Expr} {u v:Str} {pu pv:Pos} {scope:Scope} {pos:Pos} {cl:List (Str×Addr)} {own:List Str} {cp:List (Str×Nat)} {ta:TA} {tl:TE} {tc:TT} {te:TE}
theorem Zx7 {hc:X.calm=true} {N:List Str} (gu:∀fp C s H,PG (cxC X scope cl N fp C s H) (.Name u pu) (Zz 0)) (gv:∀fp C s H,PG (cxC X scope cl N fp C s H) (.Name v pv) (Zz 1))
 (h1:∀C,(assignEach [.Name u pu,.Name v pv] (compEnvC scope cl C X.env)).map (·.2)=assign (.Name u pu) (compEnvC scope cl C X.env)::(assignEach [.Name v pv] (compEnvC scope cl C X.env)).map (·.2)) (h2:∀C,(assignEach [.Name v pv] (compEnvC scope cl C X.env)).map (·.2)=assign (.Name v pv) (compEnvC scope cl C X.env)::(assignEach [] (compEnvC scope cl C X.env)).map (·.2))
 (h3:∀C,(assignEach [.Name u pu,.Name v pv] (compEnvC scope cl C X.env)).length=2) (h4:∀C,(assignEach [.Name u pu,.Name v pv] (compEnvC scope cl C X.env)).findIdx? (·.1)=none) (fp:List Addr) (C:Addr) (s:Shared) (H:Hp):PG (cxC X scope cl N fp C s H) (.Tuple [.Name u pu,.Name v pv] k tp) (g2 X.K 0 1):=
 Zpf (X:=cxC X scope cl N fp C s H) hc (Zbd (gu fp C s H) (Zbd (gv fp C s H) ZgH (h2 C)) (h1 C)) (h3 C) (h4 C)
def tCP (K:PySem.W.Frag) (n:Nat) (cp:List (Str×Nat)) (tl:TE) (tc:TT) (te:TE):TE:=fun σ H Q=>tl σ H fun v H1=>match v with
 | .ref a=>∃xs,SqL K H1 a xs/\xs.length<16777216/\∃Pv:Nat->Hp->List V->Prop,Pv 0 H1 []/\(∀i H2 acc,i<=xs.length->Pv i H2 acc->SqL K H2 a xs)/\
  (∀i r H2 acc,xs[i]?=some r->Pv i H2 acc->∃t x y,r=.ref t/\SqT K H2 t [x,y]/\ZcJ tc te (((J6 n cp σ).set 0 (some x)).set 1 (some y)) acc (Pv (i+1)) H2)/\∀H2 acc,Pv xs.length H2 acc->∀l,H2 l=none->Q (.ref l) (upd H2 l (.lst acc))
 |_=>False
theorem Zfh {K:PySem.W.Frag} (hK:X.K=K) (hc:X.calm=true) (hcl:Ja scope.names X.env.cells []=some cl) (hk:scope.kind=.function) (hnc:∀y∈scope.names,y.2≠ .cell)
 (hnm:∀x∈scope.names,x.2=.local->scope.names.lookup x.1=some .local) (hcp:Zam X scope cp) (hl:PE X iter tl) (hn:1<own.length)
 (gu:∀fp C s H,PG (cxC X scope cl (own++cp.map (·.1)) fp C s H) (.Name u pu) (Zz 0)) (gv:∀fp C s H,PG (cxC X scope cl (own++cp.map (·.1)) fp C s H) (.Name v pv) (Zz 1))
 (ht:∀fp C s H,PFs (cxC X scope cl (own++cp.map (·.1)) fp C s H) ifs tc) (he:∀fp C s H,PE (cxC X scope cl (own++cp.map (·.1)) fp C s H) elt te)
 (hs:∀z,foldedSetIterable iter X.env z=pure z:=by intro _;rfl)
 (h1:∀C,(assignEach [.Name u pu,.Name v pv] (compEnvC scope cl C X.env)).map (·.2)=assign (.Name u pu) (compEnvC scope cl C X.env)::(assignEach [.Name v pv] (compEnvC scope cl C X.env)).map (·.2):=by intro _;rfl) (h2:∀C,(assignEach [.Name v pv] (compEnvC scope cl C X.env)).map (·.2)=assign (.Name v pv) (compEnvC scope cl C X.env)::(assignEach [] (compEnvC scope cl C X.env)).map (·.2):=by intro _;rfl)
 (h3:∀C,(assignEach [.Name u pu,.Name v pv] (compEnvC scope cl C X.env)).length=2:=by intro _;rfl) (h4:∀C,(assignEach [.Name u pu,.Name v pv] (compEnvC scope cl C X.env)).findIdx? (·.1)=none:=by intro _;rfl):
 PE X (.ListComp elt [⟨.Tuple [.Name u pu,.Name v pv] k tp,iter,ifs,0⟩] scope pos) (tCP K own.length cp tl tc te):=by
 subst hK
 have hl':PE X iter (fun σ H Q=>∃Q0:VK,tl σ H Q0/\∀v H',Q0 v H'->Q v H'):=hl.imp fun σ H Q h=>h
 intro Za s σ H Q I h
 refine Zgi hc hcl hk hnc hnm hcp (ZcP hl') (Zzm (i:=0) (j:=1) (by omega) (by omega)) (Zx7 (hc:=hc) gu gv h1 h2 h3 h4) (fun fp C s H=>(ht fp C s H).imp (t':=Zlg tc) fun _ _ _ z=>z) (fun fp C s H=>(he fp C s H).imp (t':=ZkT te) fun _ _ _ z=>z) hs Za s σ H Q I ?_
 refine ⟨_,h,fun v H1 q=>?_⟩
 cases v with
 |ref a=>
  obtain ⟨xs,hx,hz,Pv,p0,pl,ps,pe⟩:=q
  have hsl:sizeLine=16777216:=sizeLine_eq
  refine ⟨a,rfl,⟨xs,hx⟩,fun i m H2 acc=>m=xs.length-i/\i<=xs.length/\acc.length<=i/\Pv i H2 acc,⟨xs.length,by omega,Nat.zero_le _,Nat.le_refl _,p0⟩,?_⟩
  rintro i m H2 acc ⟨rfl,hi,hla,pv'⟩
  refine ⟨by omega,?_⟩
  have hx2:=pl i H2 acc hi pv'
  by_cases hlt:i<xs.length
  ·refine .inr ⟨⟨xs,xs[i],hx2,by simp [hlt]⟩,fun y H3 ⟨e3,ey⟩=>?_⟩
   subst e3
   obtain ⟨t,x0,y0,e4,e5,q1⟩:=ps i y H3 acc (ey xs hx2) pv'
   subst e4
   refine ⟨t,_,rfl,e5,rfl,_,_,rfl,_,_,rfl,rfl,?_⟩
   exact ZbC (N':=fun H a=>∃m',m'<xs.length-i/\(m'=xs.length-(i+1)/\i+1<=xs.length/\a.length<=i+1/\Pv (i+1) H a)) (fun H a ha z=>⟨xs.length-(i+1),by omega,rfl,hlt,by omega,z⟩) q1
  ·have e:i=xs.length:=by omega
   subst e
   exact .inl ⟨⟨xs,hx2,Nat.le_refl _⟩,fun l hl'=>pe H2 acc pv' l hl'⟩
 |_=>exact False.elim q
end
end
section
variable {X:Cx}
def Zqh (K:PySem.W.Frag):List V->Hp->VK->Prop:=fun vs H Q=>match vs with
 |[.ref a]=>∃ns:List Int,SqL K H a (ns.map V.int)/\Q (.int ns.sum) H
 |_=>False
theorem ZrP {K:PySem.W.Frag} (hK:X.K=K) (hc:X.calm=true):Jc X (.builtin "sum") (Zqh K):=by
 subst hK
 intro Za s σ H vs us Q I r h
 unfold Zqh at h
 split at h
 ·rename_i a
  obtain ⟨ns,hx,q⟩:=h
  obtain ⟨u,rfl,ru⟩:=JA r
  cases ru
  obtain ⟨its,r1,p1,z1⟩:=I.list hx
  have hi:=Ze1 r1
  obtain ⟨xs,e⟩:=hi.allInts.items
  have hl:=p1.isList
  have hn:=hi.numsOf
  rw [e] at hl
  refine sum_intListG (I.ok.hd hc) hl fun h' tk t' hk=>?_
  have e2:preSum (numAt xs) xs.size=ns.sum:=by
   rw [preSum_eq,List.take_of_length_le (by simp),<-nums_intItems,<-e]
   exact congrArg List.sum hn
  rw [e2]
  exact ⟨.int ns.sum,H,I.kept (t':=tk) hk,⟨_,rfl⟩,q⟩
 ·exact h.elim
end
theorem Zpl:bootBuiltins "sum"=some (.builtin "sum"):=by decide +kernel
theorem Zw1:bootBuiltins "set"=some (.type "set"):=by decide +kernel
theorem Jl {P:Addr} {pos:Pos} {q:Str} {H H':Hp} (h:Bk P pos q H) (sm:Zw H H'):Bk P pos q H':=by
 rcases h with h|⟨c',h1,h2⟩
 ·exact .inl (sm _ _ h)
 ·exact .inr ⟨c',sm _ _ h1,sm _ _ h2⟩
end L2
namespace LO
theorem ZqH {a b:Nat} {x y:List Nat} (h:a::x<=b::y):a<b\/(a=b/\x<=y):=by
 have h':¬(b::y<a::x):=List.not_lt.mpr h
 rw [List.cons_lt_cons_iff] at h'
 by_cases hab:a=b
 ·exact .inr ⟨hab,List.not_lt.mp fun z=>h' (.inr ⟨hab.symm,z⟩)⟩
 ·exact .inl (Nat.lt_of_le_of_ne (Nat.le_of_not_lt fun z=>h' (.inl z)) hab)
theorem Zc6 {α:Type} [DecidableEq α]:∀{ks ps:List α},ks.Nodup->(∀x∈ks,x∈ps)->ks.length<=ps.length
 |[],_,_,_=>Nat.zero_le _
 |x::r,ps,nd,h=>by
  have hx:=h x (mem_cons_self ..)
  obtain ⟨n1,n2⟩:=List.nodup_cons.mp nd
  have:=Zc6 (ks:=r) (ps:=ps.erase x) n2 fun y hy=>by
   have hne:y≠x:=by rintro rfl;exact n1 hy
   exact (List.mem_erase_of_ne hne).mpr (h y (mem_cons_of_mem _ hy))
  rw [List.length_erase_of_mem hx] at this
  have:=List.length_pos_of_mem hx
  rw [length_cons]
  omega
def cms (t:List Nat):List Nat:=0::(List.range t.length).map fun k=>LW.com (t.drop ((ord t).getD k 0)) (t.drop ((ord t).getD (k+1) 0))
open LW L2
def en (t:List Nat) (k:Nat):List Nat:=t.drop ((ord t).getD k 0)
def cmx (t:List Nat) (k:Nat):Nat:=(cms t++[0]).getD k 0
def ZBt (t:List Nat) (p:Nat):Option Nat:=if p+(1+max (cmx t (ZhK t p)) (cmx t (ZhK t p+1)))<=t.length then some (1+max (cmx t (ZhK t p)) (cmx t (ZhK t p+1))) else none
end LO
namespace L2
end L2
namespace LO
open LW L2
def Zyq (t:List Nat) (k:Nat):List (List Nat):=(List.range ((en t k).length-cmx t k)).map fun j=>(en t k).take (cmx t k+1+j)
def pcs (t:List Nat):List (List Nat):=[]::(List.range (t.length+1)).flatMap (Zyq t)
def ZBs (t:List Nat):Nat:=(pcs t).length
end LO
namespace L2
open PySem
open PySem.Spec PyProof.Rows
def ZhV (w:World) (t:SetTable) (n:Nat):Prop:=(w.params.followText "set-order"=false->t.led=true)/\(0<n->t.plain=false)
abbrev qS (es:Array (Int×Value)) (ep:Nat) (t:SetTable):Obj:= {cls:=.type "set",dict:=none,data:=.set es ep t}
def qQ (prog:Program) (w:World) (h:Heap) (a:Addr) (S:Str->Bool) (n:Nat):Prop:=
 ∃es ep t,h.get? a=some (qS es ep t)/\ElemsOf (PySem.strKind prog w) es.toList/\(∀k,S k=true↔∃e∈es.toList,(PySem.strKind prog w).is k e.2=true)/\es.size<scanBound/\t.fits es.size=true/\es.size=n/\ZhV w t es.size
theorem ZhA (t:SetTable) (n:Nat):(t.orStandIn n).led=t.led/\(t.plain=false->(t.orStandIn n).plain=false):=by
 unfold SetTable.orStandIn
 split
 ·exact ⟨rfl,id⟩
 ·exact ⟨rfl,fun _=>rfl⟩
theorem ZqS (t:SetTable) (es:Array (Int×Value)) (h:Int) (x:Value):(layNew t es h x).2.1.led=t.led/\(t.plain=false->(layNew t es h x).2.1.plain=false):=by
 unfold layNew
 split
 ·rename_i slot wd _
  have:=ZhA (t.put slot).1 (SetTable.insertAt es (t.put slot).2 (h,x)).size
  exact ⟨this.1.trans rfl,fun z=>this.2 z⟩
 ·exact ⟨rfl,fun _=>rfl⟩
theorem Ziv {t t':SetTable} {hs:Array Int} {n:Nat} {order:Array Nat} (h:t.relaid hs n=some (t',order)):t'.led=t.led/\t'.plain=t.plain:=by
 unfold SetTable.relaid SetTable.laid at h
 simp only [Option.bind_eq_bind,Option.bind_eq_some_iff,Option.pure_def,Option.some.injEq,Prod.mk.injEq] at h
 obtain ⟨_,_,e,_⟩:=h
 rw [<-e]
 exact ⟨rfl,rfl⟩
theorem Zk9 (t:SetTable) (es:Array (Int×Value)) (n:Nat):(relayAll t es n).2.1.led=t.led/\(t.plain=false->(relayAll t es n).2.1.plain=false):=by
 unfold relayAll
 split
 ·rename_i t' order e
  have:=Ziv e
  dsimp only
  split
  ·exact ⟨this.1,fun z=>this.2.trans z⟩
  ·exact ⟨rfl,fun _=>rfl⟩
 ·exact ⟨rfl,fun _=>rfl⟩
section
variable {prog:Program} {w:World} {A:Around} {E:Value->Shared->Prop} {s:Shared}
theorem Zhf {h:Heap} {a:Addr} {es es':Array (Int×Value)} {ep:Nat} {t t':SetTable} (ho:h.get? a=some (qS es ep t)):(h.update a (Obj.putSet es' t')).get? a=some (qS es' (ep+1) t'):=by
 have e:=putSet_of (o:=qS es ep t) es' t' rfl
 have g:=Heap.get?_update_self (Obj.putSet es' t') ho (by rw [e];rfl)
 rw [e] at g
 exact g
theorem Zhr {g:Bool->Sem Unit} (gok:∀(b:Bool) (z:Shared) (R:Unit->Shared->Prop),R () z->wpAny (model prog w) A (g b) R E z) {a:Addr} {es:Array (Int×Value)} {ep:Nat} {t:SetTable} (ho:s.heap.get? a=some (qS es ep t))
 {fs:Array (Int×Value)} {u:SetTable} {S':Str->Bool} (el:ElemsOf (PySem.strKind prog w) fs.toList) (mem:∀k,S' k=true↔∃e∈fs.toList,(PySem.strKind prog w).is k e.2=true) (small:fs.size<scanBound) (fit:u.fits fs.size=true) (tab:ZhV w u fs.size)
 {wd:Bool} {R:Option Bool->Shared->Prop} (fin:∀h',Heap.SameBut a s.heap h'->qQ prog w h' a S' fs.size->R (some true) {s with heap:=h'}):
 wpAny (model prog w) A (do
  storeSet a fs u
  if (!wd && u.tooFull)=true then do
      g (relayAll u fs (SetTable.grown fs.size)).2.2
      storeSet a (relayAll u fs (SetTable.grown fs.size)).1 (relayAll u fs (SetTable.grown fs.size)).2.1
      pure (some true)
   else pure (some true)) R E s:=by
 refine wpAny_bind (wpAny_storeSet_of ho rfl ?_ (fits_of_scanBound small))
 have o1:=Zhf (es':=fs) (t':=u) ho
 have b1:=Heap.SameBut.update s.heap a (Obj.putSet fs u)
 split
 ·have pm:=relayAll_perm u fs (SetTable.grown fs.size)
  have ft:=relayAll_fits u fs (SetTable.grown fs.size)
  have ld:=Zk9 u fs (SetTable.grown fs.size)
  generalize relayAll u fs (SetTable.grown fs.size)=rl at pm ft ld ⊢
  obtain ⟨gs,v,gv⟩:=rl
  dsimp only at pm ft ld ⊢
  have sz:gs.size=fs.size:=by rw [<-Array.length_toList,pm.length_eq,Array.length_toList]
  refine wpAny_bind (gok _ _ _ (wpAny_bind (wpAny_storeSet_of o1 rfl ?_ (fits_of_scanBound (by rw [sz];exact small)))))
  have o2:=Zhf (es':=gs) (t':=v) o1
  refine wpAny_pure (fin _ (b1.trans (Heap.SameBut.update _ a _)) ⟨gs,_,v,o2,el.perm pm,fun k=>(mem k).trans ⟨fun ⟨e,he,q⟩=>⟨e,pm.mem_iff.mpr he,q⟩,fun ⟨e,he,q⟩=>⟨e,pm.mem_iff.mp he,q⟩⟩,by rw [sz];exact small,ft,sz,?_⟩)
  rw [sz]
  exact ⟨fun z=>ld.1.trans (tab.1 z),fun z=>ld.2 (tab.2 z)⟩
 ·exact wpAny_pure (fin _ b1 ⟨fs,_,u,o1,el,mem,small,fit,rfl,tab⟩)
theorem add_str {a:Addr} {S:Str->Bool} {n:Nat} {x:Str} {tk:Tok} {Q:Bool->Shared->Prop} (st:qQ prog w s.heap a S n) (room:n+1<scanBound)
 (fin:∀h',Heap.SameBut a s.heap h'->qQ prog w h' a (fun k=>S k || decide (k=x)) (if S x then n else n+1)->Q (!S x) {s with heap:=h'}):
 wpAny (model prog w) A (setAddHashed a (.str x tk) ((PySem.strKind prog w).hash x)) Q E s:=by
 obtain ⟨es,ep,t,ho,el,mem,small,fit,rfl,tab⟩:=st
 have key:(PySem.strKind prog w).is x (.str x tk)=true:=by
  show Value.isStrOf x (.str x tk)=true
  simp [Value.isStrOf,Value.isStr]
 unfold setAddHashed setAddHashedIn
 refine wpAny_holding (wpAny_bind (wpAny_setState_of ho rfl fit ?_))
 dsimp only
 rw [byScan_of (knd:=PySem.strKind prog w) (x:=.str x tk) rfl small el]
 simp only [↓reduceIte]
 unfold setAddByScan
 refine wpAny_bind (wpAny_bind (wpAny_rule (wpAny_bind (wpAny_setScan_of (knd:=PySem.strKind prog w) key ho rfl fit el ?_))))
 cases found:List.findIdx? (fun e=>(PySem.strKind prog w).is x e.2) es.toList with
 |some j=>
  dsimp only
  obtain ⟨hj,at_,_⟩:=List.findIdx?_eq_some_iff_getElem.mp found
  have yes:S x=true:=(mem x).mpr ⟨es.toList[j],List.getElem_mem hj,at_⟩
  refine wpAny_pure (wpAny_pure ?_)
  have f:=fin s.heap (Heap.SameBut.refl a s.heap) ⟨es,ep,t,ho,el,fun k=>?_,small,fit,by rw [yes];rfl,tab⟩
  ·rw [yes] at f
   exact f
  ·rw [Bool.or_eq_true,decide_eq_true_eq,<-mem k]
   exact ⟨fun z=>z.elim id fun e=>e▸yes,.inl⟩
 |none=>
  dsimp only
  have no:S x=false:=by
   cases hx:S x with
   |false=>rfl
   |true=>
    obtain ⟨e,he,q⟩:=(mem x).mp hx
    have:=List.findIdx?_eq_none_iff.mp found e he
    rw [q] at this
    cases this
  have pm:=layNew_perm t es ((PySem.strKind prog w).hash x) (.str x tk)
  have ft:=layNew_fits t es ((PySem.strKind prog w).hash x) (.str x tk)
  have ld:=ZqS t es ((PySem.strKind prog w).hash x) (.str x tk)
  generalize layNew t es ((PySem.strKind prog w).hash x) (.str x tk)=ly at pm ft ld ⊢
  obtain ⟨fs,u,wd,gave⟩:=ly
  dsimp only at pm ft ld ⊢
  rw [Array.toList_push] at pm
  have el':ElemsOf (PySem.strKind prog w) fs.toList:=(el.push key rfl).perm pm
  have mem':=mem_push_iff (knd:=PySem.strKind prog w) key mem pm
  have sz:fs.size=es.size+1:=by rw [<-Array.length_toList,pm.length_eq,length_append,Array.length_toList];rfl
  have gok:∀(b:Bool) (z:Shared) (R:Unit->Shared->Prop),R () z->wpAny (model prog w) A (match b with|true=>rule "set.scan.the-table-gave-way"|false=>pure ()) R E z:=fun b z R q=>by
   cases b
   ·exact wpAny_pure q
   ·exact wpAny_rule q
  refine wpAny_bind (gok _ _ _ ?_)
  have last:∀h',Heap.SameBut a s.heap h'->qQ prog w h' a (fun k=>S k || decide (k=x)) fs.size->Q true {s with heap:=h'}:=fun h' sb q=>by
   have f:=fin h' sb
   rw [no,if_neg Bool.false_ne_true] at f
   rw [sz] at q
   exact f q
  split
  ·rename_i pl
   refine wpAny_bind ?_
   rw [hashByValue_scannable 8 (x:=.str x tk) rfl]
   refine wpAny_pure ?_
   show wpAny _ _ _ _ _ _
   refine Zhr (w:=w) (fun b z R q=>gok b z R q) ho el' mem' (by omega) (u:= {u with plain:=false}) (SetTable.fits_plain_off ft) ⟨fun z=>ld.1.trans (tab.1 z),fun _=>rfl⟩ fun h' sb q=>?_
   exact wpAny_pure (last h' sb q)
  ·rename_i pl
   refine wpAny_bind (wpAny_pure ?_)
   simp only [↓reduceIte]
   refine Zhr (w:=w) (fun b z R q=>gok b z R q) ho el' mem' (by omega) ft ⟨fun z=>ld.1.trans (tab.1 z),fun _=>by simpa using pl⟩ fun h' sb q=>?_
   exact wpAny_pure (last h' sb q)
end
def Zd2 (ds:List Nat):Str->Bool:=fun k=>ds.any fun c=>decide (k=T [c])
theorem Zi1 (ds:List Nat) (c:Nat):Zd2 ds (T [c])=decide (c∈ds):=by
 unfold Zd2
 rw [Bool.eq_iff_iff,List.any_eq_true,decide_eq_true_eq]
 refine ⟨fun ⟨d,hd,e⟩=>?_,fun h=>⟨c,h,by simp⟩⟩
 have:=ZcI.mp (of_decide_eq_true e)
 rw [List.head_eq_of_cons_eq this]
 exact hd
theorem ZgI {prog:Program} {w:World} {h:Heap} {a:Addr} {S S':Str->Bool} {n n':Nat} (x:qQ prog w h a S n) (e:∀k,S k=S' k) (en:n=n'):qQ prog w h a S' n':=by
 have:S=S':=funext e
 subst this en
 exact x
section
variable {prog:Program} {w:World} {A:Around} {E:Value->Shared->Prop} {s:Shared}
theorem ZlJ {R:Result->Shared->Prop} {I:Addr} {fp wr:List Addr} {G:Array GenState->Array GenState->Prop} {n:Nat} {P:Nat->Value->Prop} {St:Nat->Shared->Prop} (W:WalksS prog w A.in1 I fp wr G n P St) (a:Addr) (out:a∉fp) (ys:List Nat) (hn:n=ys.length)
 (hP:∀i v,P i v->∃c u,ys[i]?=some c/\v=.str (T [c]) u) (room:n+1<scanBound):∀(k i:Nat) (s:Shared) (ds:List Nat),n-i=k->i<=n->St i s->ds.Nodup->(∀c,c∈ds↔c∈ys.take i)->ds.length<=i->qQ prog w s.heap a (Zd2 ds) ds.length->
  (∀s' ds,Moved (a::wr) G s s'->ds.Nodup->(∀c,c∈ds↔c∈ys)->qQ prog w s'.heap a (Zd2 ds) ds.length->R (.ok (.ret .none)) s')->codeAny (model prog w) A (.builtin "set.update.loop" ⟨[.ref a,.ref I],[]⟩) R s:=by
 have aw:a∉wr:=fun h=>out (W.sub _ h)
 have more:∀b∈wr,b∈a::wr:=fun b hb=>mem_cons_of_mem _ hb
 have stay:∀{s s':Shared} {S:Str->Bool} {m:Nat},qQ prog w s.heap a S m->Moved wr G s s'->qQ prog w s'.heap a S m:=fun {s s' S m} x mv=>by
  obtain ⟨es,ep,t,ho,r⟩:=x
  exact ⟨es,ep,t,mv.heap a _ aw ho,r⟩
 intro k
 induction k with
 |zero=>
  intro i s ds hk hi st nd mem len set fin
  have:i=n:=by omega
  subst this
  refine codeAny_builtin F.entry_set_update_loop ?_
  rw [Around.under_plainId F.plain_set_update_loop _]
  show wpAny _ A.in1 (pyNext (.ref I) >>=_) _ _ s
  refine wpAny_bind (W.done s _ _ st fun s' mv=>?_)
  exact wpAny_pure (fin s' ds (mv.mono more) nd (fun c=>by rw [mem c,List.take_of_length_le (by omega)]) (stay set mv))
 |succ k ih=>
  intro i s ds hk hi st nd mem len set fin
  have lt:i<n:=by omega
  refine codeAny_builtin F.entry_set_update_loop ?_
  rw [Around.under_plainId F.plain_set_update_loop _]
  show wpAny _ A.in1 (pyNext (.ref I) >>=_) _ _ s
  refine wpAny_bind (W.item i s _ _ lt st fun v s' hv st' mv=>?_)
  obtain ⟨c,u,hc,rfl⟩:=hP i v hv
  show wpAny _ A.in1 (holding [Value.str (T [c]) u] (setAdd a (.str (T [c]) u)) >>=_) _ _ s'
  refine wpAny_bind (wpAny_holding ?_)
  unfold setAdd
  have key:(PySem.strKind prog w).is (T [c]) (.str (T [c]) u)=true:=by
   show Value.isStrOf (T [c]) (.str (T [c]) u)=true
   simp [Value.isStrOf,Value.isStr]
  refine wpAny_holding (wpAny_bind ((PySem.strKind prog w).pyHash (k:=T [c]) key ?_))
  refine add_str (s:= {s' with toks:=s'.toks+1}) (show qQ prog w s'.heap a _ _ from stay set mv) (by omega) fun h' sb set2=>?_
  have mem2:∀d,d∈(if c∈ds then ds else ds++[c])↔d∈ys.take (i+1):=fun d=>by
   rw [List.take_succ,hc,mem_append,<-mem d]
   split
   ·rename_i h
    exact ⟨.inl,fun z=>z.elim id fun e=>by have:d=c:=by simpa using e
                                           rw [this];exact h⟩
   ·simp
  have nd2:(if c∈ds then ds else ds++[c]).Nodup:=by
   split
   ·exact nd
   ·rename_i h
    rw [List.nodup_append]
    exact ⟨nd,by simp,fun x hx y hy e=>h (by rw [<-mem_singleton.mp hy,<-e];exact hx)⟩
  have len2:(if c∈ds then ds else ds++[c]).length<=i+1:=by
   split
   ·omega
   ·rw [length_append,length_singleton]
    omega
  have set3:qQ prog w h' a (Zd2 (if c∈ds then ds else ds++[c])) (if c∈ds then ds else ds++[c]).length:=by
   refine ZgI set2 (fun k=>?_) ?_
   ·split
    ·rename_i h
     rw [Bool.eq_iff_iff,Bool.or_eq_true,decide_eq_true_eq]
     refine ⟨fun z=>z.elim id fun e=>?_,.inl⟩
     rw [e,Zi1]
     exact decide_eq_true h
    ·unfold Zd2
     rw [List.any_append]
     simp
   ·rw [Zi1]
    by_cases h:c∈ds
    ·simp [h]
    ·simp [h]
  refine wpAny_pure ⟨plainId_quiet F.plain_set_update_loop _,ih (i+1) _ _ (by omega) lt (W.frame _ s' _ _ st' (Nat.le_succ _) fun b hb o e=>?_) nd2 mem2 len2 set3 fun s2 ds' mv2 nd' mem' set'=>?_⟩
  ·rw [sb.2 b (fun z:b=a=>out (z▸hb))]
   exact e
  ·refine fin s2 ds' (Moved.trans W.gtrans ((mv.mono more).then_heap (Nat.le_succ _) fun b o hb e=>?_) mv2) nd' mem' set'
   rw [sb.2 b (fun z:b=a=>hb (z▸mem_cons_self))]
   exact e
end
theorem Zhc:isSubtype (.type "str") (.type "set")=pure false:=by rw [isSubtype_type];kernel_rfl
theorem ZeO:isSubtype (.type "str") (.type "frozenset")=pure false:=by rw [isSubtype_type];kernel_rfl
section
variable {prog:Program} {w:World} {A:Around} {E:Value->Shared->Prop} {s:Shared}
theorem ZhR (v:Value) {Q₁:Value->Shared->Prop} (h:Q₁ (.ref s.heap.objs.size) {s with heap:=s.heap.push (qS #[] 0 (.fresh 0 0 (!w.params.followText "set-order")))}):
 codeAny (model prog w) A (.call (.builtin "set.__new__") ⟨[.type "set",v],[]⟩) (wants Q₁ E) s:=by
 refine codeAny_of_tree ?_
 show wpAny _ A.in1 (do checkBuiltinCall "set.__new__" ⟨[.type "set",v],[]⟩;again (.builtin "set.__new__" ⟨[.type "set",v],[]⟩)) _ _ s
 refine wpAny_bind (wpAny_of_eq (F.newCall_set_1 v) (wpAny_pure ⟨plainId_quiet F.plain_set_new _,codeAny_builtin F.entry_set_new ?_⟩))
 rw [Around.under_plainId F.plain_set_new _]
 unfold Builtin.«set.__new__» Builtin.Frozenset.newClass
 have sub:=sub_set_self
 obtain ⟨hp,g,d,tk,os⟩:=s
 dsimp only
 wp_walk
 refine wpAny_askSetting (wpAny_pure ?_)
 dsimp only
 simp only [newObj]
 exact wpAny_bind (wpAny_alloc (wpAny_pure (wpAny_pure h)))
set_option maxHeartbeats 3200000 in
theorem Zgq {x:Str} {tk:Tok} {Q:Value->Shared->Prop} (hh:A.handled=none) (small:(L x).length+1<scanBound)
 (h:∀(h':Heap) (tk':Nat) (ds:List Nat),qQ prog w h' s.heap.objs.size (Zd2 ds) ds.length->ds.Nodup->(∀c,c∈ds↔c∈L x)->(∀b o,b<s.heap.objs.size->s.heap.get? b=some o->h'.get? b=some o)->Q (.ref s.heap.objs.size) {s with heap:=h',toks:=tk'}):
 wpAny (model prog w) A (call (.type "set") [.str x tk]) Q E s:=by
 obtain ⟨c,tl,hmro⟩:=F.called_set.mro
 have hmade:=F.called_set.made
 have hsub:=F.called_set.sub
 refine wpAny_call (codeAny_of_tree ?_)
 show wpAny _ _ (callAny (.type "set") _) _ _ _
 refine wpAny_pure ⟨Code.quiet_builtin _ (by decide +kernel),codeAny_builtin F.entry_type_call ?_⟩
 rw [Around.under_plain (weight_type_call_type "set" [.str x tk] []) rfl]
 have h1:=F.called_set.notType
 have h2:=F.called_set.canCreate
 have hct:=F.typeCall_set_1 (.str x tk)
 repeat (any_goals (first|assumption|wp_step))
 refine codeAny_mono (ZhR (.str x tk) (E:=E) (Q₁:=fun obj z=>obj=.ref s.heap.objs.size/\z= {s with heap:=s.heap.push (qS #[] 0 (.fresh 0 0 (!w.params.followText "set-order")))}) ⟨rfl,rfl⟩) fun r z hr=>?_
 cases r with
 |error e=>exact hr
 |ok fl=>
  cases fl with
  |ret obj=>
   obtain ⟨rfl,rfl⟩:=hr
   generalize hled:(!w.params.followText "set-order")=led
   have own:(s.heap.push (qS #[] 0 (.fresh 0 0 led))).get? s.heap.objs.size=some (qS #[] 0 (.fresh 0 0 led)):=Heap.get?_push_size _ rfl
   have hT:Shared.TypeIs {s with heap:=s.heap.push (qS #[] 0 (.fresh 0 0 led))} (.ref s.heap.objs.size) "set":=⟨_,own,rfl⟩
   have hli:=F.called_set.init.lookup
   have hbi:=F.called_set.init.bind (.ref s.heap.objs.size)
   repeat (any_goals (first|assumption|wp_step))
   refine codeAny_mono (codeAny_call_builtin (R:=wants (fun r z=>r=.none/\∃h' tk' ds,z= {s with heap:=h',toks:=tk'}/\qQ prog w h' s.heap.objs.size (Zd2 ds) ds.length/\ds.Nodup/\(∀c,c∈ds↔c∈L x)/\
    (∀b o,b<s.heap.objs.size->s.heap.get? b=some o->h'.get? b=some o)) E) F.called_set.init.plain F.entry_set_init (check_set_init_1 hT ?_)) fun r₂ z₂ hr₂=>?_
   ·have hsls:=Zhc
    have hslf:=ZeO
    have hne:(Value.type "str"==Value.type "dict")=false:=by decide
    have hts:Shared.TypeIs {s with heap:=s.heap.push (qS #[] 0 (.fresh 0 0 led))} (.str x tk) "str":=typeIs_str _ _ _
    unfold Builtin.«set.__init__» noKeywords Builtin.Frozenset.updateFrom
    generalize hPI:pyIter=PI
    wp_walk
    subst hPI
    refine wpAny_pyIter_str fun o St W st=>?_
    refine wpAny_bind (wpAny_runValue ?_)
    have hh3:A.in1.in1.in1.handled=none:=by simp [hh]
    have hsz:(s.heap.push (qS #[] 0 (.fresh 0 0 led))).objs.size=s.heap.objs.size+1:=Heap.size_push ..
    have hlx:x.cps.size=(L x).length:=by unfold L;simp
    have out:s.heap.objs.size∉[(s.heap.push (qS #[] 0 (.fresh 0 0 led))).objs.size]:=by
     rw [hsz,mem_singleton]
     exact Nat.ne_of_lt (Nat.lt_succ_self _)
    refine ZlJ ((W _ hh3).toS) s.heap.objs.size out (L x) hlx (fun i v hv=>?_) (by rw [hlx];exact small) (x.cps.size-0) 0 _ [] (by omega) (Nat.zero_le _) st List.nodup_nil (fun c=>by simp) (Nat.zero_le _) ?_ fun z ds mv nd mem set=>?_
    ·obtain ⟨d,u,e1,e2⟩:=hv
     refine ⟨d,u,?_,e2⟩
     unfold L
     rw [Array.getElem?_toList]
     exact e1
    ·refine ⟨#[],0,_,Heap.get?_push_of_some _ own,fun e he=>by simp at he,fun k=>?_,by decide,rfl,rfl,fun z=>?_,fun z=>absurd z (Nat.lt_irrefl _)⟩
     ·simp [Zd2]
     ·rw [<-hled,z]
      rfl
    ·obtain ⟨h',g',d',tk',os'⟩:=z
     have eg:g'=s.gens:=mv.gens
     have ed:d'=s.drawn:=mv.drawn
     have eo:os'=s.os:=mv.os
     subst eg ed eo
     refine wpAny_pure (wpAny_pure ⟨rfl,h',tk',ds,rfl,set,nd,mem,fun b o hb e=>?_⟩)
     refine mv.heap b o ?_ (Heap.get?_push_of_some _ (Heap.get?_push_of_some _ e))
     rw [hsz]
     simp only [mem_cons,mem_singleton,List.not_mem_nil,or_false,not_or]
     exact ⟨Nat.ne_of_lt hb,Nat.ne_of_lt (Nat.lt_succ_of_lt hb)⟩
   ·cases r₂ with
    |error e=>exact hr₂
    |ok fl₂=>
     cases fl₂ with
     |ret r=>
      obtain ⟨rfl,h',tk',ds,rfl,q1,q2,q3,q4⟩:=hr₂
      repeat (any_goals (first|assumption|wp_step))
      exact h _ _ _ q1 q2 q3 q4
     |_=>exact hr₂.elim
  |_=>exact hr.elim
end
def Zgv (w:World) (h:Heap) (a:Addr) (cs:List Nat):Prop:=∃es ep t,h.get? a=some (qS es ep t)/\ZD (cs.map fun c=>V.str (T [c])) (es.toList.map (·.2))/\t.fits es.size=true/\es.size<scanBound/\ZhV w t es.size
theorem Zho {α:Type} [DecidableEq α]:∀{ds cs:List α},ds.Nodup->(∀x∈ds,x∈cs)->cs.length=ds.length->cs.Perm ds
 |[],cs,_,_,h=>by
  rw [length_eq_zero_iff.mp h]
 |d::r,cs,nd,sub,h=>by
  obtain ⟨n1,n2⟩:=List.nodup_cons.mp nd
  have hd:=sub d (mem_cons_self ..)
  have p1:cs.Perm (d::cs.erase d):=List.perm_cons_erase hd
  refine p1.trans (List.Perm.cons d (Zho n2 (fun x hx=>?_) ?_))
  ·have hne:x≠d:=by rintro rfl;exact n1 hx
   exact (List.mem_erase_of_ne hne).mpr (sub x (mem_cons_of_mem _ hx))
  ·rw [List.length_erase_of_mem hd,h,length_cons]
   omega
theorem ZhD {prog:Program} {w:World} {ds:List Nat}:∀{es:List (Int×Value)},ElemsOf (PySem.strKind prog w) es->(∀e∈es,∀k,(PySem.strKind prog w).is k e.2=true->Zd2 ds k=true)->
 ∃cs:List Nat,ZD (cs.map fun c=>V.str (T [c])) (es.map (·.2))/\(∀c∈cs,c∈ds)/\∀c,(∃e∈es,(PySem.strKind prog w).is (T [c]) e.2=true)->c∈cs
 |[],_,_=>⟨[],.nil,fun c h=>(List.not_mem_nil h).elim,fun c ⟨e,h,_⟩=>(List.not_mem_nil h).elim⟩
 |e::r,el,mem=>by
  obtain ⟨cs,v1,m1,m2⟩:=ZhD (ds:=ds) el.tail fun x hx=>mem x (mem_cons_of_mem _ hx)
  obtain ⟨⟨k,hk,_⟩,_⟩:=el.head
  obtain ⟨t,ht⟩:=Value.isStrOf_shape hk
  have hm:=mem e (mem_cons_self ..) k hk
  unfold Zd2 at hm
  rw [List.any_eq_true] at hm
  obtain ⟨c,hc,ec⟩:=hm
  have ec:=of_decide_eq_true ec
  subst ec
  refine ⟨c::cs,.cons ⟨t,ht⟩ v1,fun d hd=>?_,fun d ⟨x,hx,hk2⟩=>?_⟩
  ·rcases mem_cons.mp hd with rfl|hd
   ·exact hc
   ·exact m1 d hd
  ·rcases mem_cons.mp hx with rfl|hx
   ·have:T [d]=T [c]:=(PySem.strKind prog w).inj _ _ _ hk2 hk
    rw [List.head_eq_of_cons_eq (ZcI.mp this)]
    exact mem_cons_self ..
   ·exact mem_cons_of_mem _ (m2 d ⟨x,hx,hk2⟩)
theorem Zlq {prog:Program} {w:World} {h:Heap} {a:Addr} {ds:List Nat} (st:qQ prog w h a (Zd2 ds) ds.length) (nd:ds.Nodup):∃cs,cs.Perm ds/\Zgv w h a cs:=by
 obtain ⟨es,ep,t,ho,el,mem,small,fit,sz,tab⟩:=st
 obtain ⟨cs,v1,m1,m2⟩:=ZhD (ds:=ds) el fun e he k hk=>(mem k).mpr ⟨e,he,hk⟩
 have hl:=v1.length
 rw [length_map,length_map] at hl
 have hl:cs.length=ds.length:=hl.trans (Array.length_toList.trans sz)
 refine ⟨cs,Zho nd (fun c hc=>m2 c ((mem (T [c])).mp ?_)) hl,es,ep,t,ho,v1,fit,small,tab⟩
 rw [Zi1]
 exact decide_eq_true hc
def Zeq (w:World) (a:Addr) (cs:List Nat):HO:=.ext fun h=>Zgv w h a cs
section
variable {X:Cx}
def Zuo (w:World):List V->Hp->VK->Prop:=fun vs H Q=>match vs with
 |[.str z]=>(L z).length<=1000/\∀p cs,H p=none->cs.Nodup->(∀c,c∈cs↔c∈L z)->Q (.ref p) (upd H p (Zeq w p cs))
 |_=>False
theorem ZtR {w:World} (hw:X.w=w) (hc:X.calm=true):Jc X (.type "set") (Zuo w):=by
 subst hw
 intro Za s σ H vs us Q I r h
 unfold Zuo at h
 split at h
 ·rename_i z
  obtain ⟨hl,q⟩:=h
  obtain ⟨u,rfl,ru⟩:=JA r
  obtain ⟨t,rfl⟩:=ru
  refine Zgq (prog:=X.prog) (w:=X.w) (I.ok.hd hc) (by unfold scanBound;omega) fun h' tk ds set nd mem kp=>?_
  obtain ⟨cs,pm,ss⟩:=Zlq set nd
  have hn:=I.hok.fresh (Nat.le_refl s.heap.objs.size)
  refine ⟨.ref s.heap.objs.size,_,I.laid (o:=Zeq X.w s.heap.objs.size cs) (t':=tk) (fun b o e=>kp b o (Heap.lt_size e) e) (Nat.le_refl _) ⟨ss,?_,?_⟩,rfl,q _ cs hn (pm.nodup_iff.mpr nd) fun c=>(pm.mem_iff).trans (mem c)⟩
  ·obtain ⟨es,ep,t,ho,_⟩:=ss
   exact ⟨_,ho⟩
  ·rintro h1 h2 ⟨es,ep,t,ho,r⟩ k
   exact ⟨es,ep,t,k _ ho,r⟩
 ·exact h.elim
end
theorem ZO:Slot "set_iterator" "__next__" "set_iterator.__next__":=
 .of (owner:="set_iterator") (n:="__next__") (by rw [typeLookup_type,builtinLookup_eq_fast];kernel_rfl) (by decide +kernel) (by decide +kernel) (by decide +kernel) (by first|exact .inl (by decide +kernel)|exact .inr (by decide +kernel)) (by rw [isSubtype_type];kernel_rfl)
theorem z8:entryFor table "set_iterator.__next__"=some Builtin.«set_iterator.__next__»:=entryFor_of_tree (by kernel_rfl)
theorem YA (v:Value):argsOk "set_iterator.__next__" ⟨[v],[]⟩:=by unfold argsOk;kernel_rfl
theorem ZbY:Slot "set_iterator" "__iter__" "set_iterator.__iter__":=
 .of (owner:="set_iterator") (n:="__iter__") (by rw [typeLookup_type,builtinLookup_eq_fast];kernel_rfl) (by decide +kernel) (by decide +kernel) (by decide +kernel) (by first|exact .inl (by decide +kernel)|exact .inr (by decide +kernel)) (by rw [isSubtype_type];kernel_rfl)
theorem ZdY:entryFor table "set_iterator.__iter__"=some Builtin.«dict_keyiterator.__iter__»:=
 entryFor_alias (id':="dict_keyiterator.__iter__") (by kernel_rfl) (by first|rfl|decide +kernel) (by decide +kernel) (by kernel_rfl)
theorem ZeI (v:Value):argsOk "set_iterator.__iter__" ⟨[v],[]⟩:=by unfold argsOk;kernel_rfl
theorem Zd6:entryFor table "set.__iter__"=some Builtin.«frozenset.__iter__»:=
 entryFor_alias (id':="frozenset.__iter__") (by kernel_rfl) (by first|rfl|decide +kernel) (by decide +kernel) (by kernel_rfl)
def Zcy (h:Heap) (I:Addr) (first:Value) (i:Nat) (a:Addr) (n ep:Nat):Prop:=h.get? I=some {cls:=.type "set_iterator",data:=.fields #[first,.int i 0,.ref a,.int n 0,.int ep 0]}
section
variable {prog:Program} {w:World} {A:Around} {E:Value->Shared->Prop} {s:Shared} {I Fr a:Addr} {i n ep:Nat} {es:Array (Int×Value)} {t:SetTable}
theorem Zix {pl:Array Value} {m p:Nat} {hx:Int} {x:Value} {Q:Option Value->Shared->Prop} (hI:Zcy s.heap I (.ref Fr) i a n ep) (hF:s.heap.get? Fr=some {cls:=.type "tuple",data:=.seq pl m}) (hS:s.heap.get? a=some (qS es ep t)) (fit:t.fits es.size=true) (hn:es.size=n)
 (hp:pl[i]?=some (rawInt p)) (he:es[p]?=some (hx,x)) (hQ:∀h',Zcy h' I (.ref Fr) (i+1) a n ep->Heap.SameBut I s.heap h'->Q (some x) {s with heap:=h'}):wpAny (model prog w) A (pyNext (.ref I)) Q E s:=by
 have hT:s.TypeIs (.ref I) "set_iterator":=⟨_,hI,rfl⟩
 unfold pyNext
 refine wpAny_bind (wpAny_attempt (wpAny_callSpecial?_slot (name:=Str.ofString "__next__") hT ZO (wpAny_call_entry ZO hT z8 ?_ (YA _))))
 unfold Builtin.«set_iterator.__next__»
 refine wpAny_bind (m:=slotArgs _ _ _) (wpAny_pure ?_)
 refine wpAny_bind (wpAny_fieldsOf hI rfl ?_)
 dsimp only
 refine wpAny_bind (wpAny_setEntries_of hS rfl fit ?_)
 rw [if_neg (by rw [hn];simp)]
 refine wpAny_bind (wpAny_seqItems hF rfl ?_)
 dsimp only
 rw [Int.toNat_natCast,hp]
 show wpAny _ _ (setNextDrawn a (p:Int).toNat (ep:Int).toNat >>=_) _ _ s
 rw [Int.toNat_natCast,Int.toNat_natCast]
 refine wpAny_bind ?_
 unfold setNextDrawn
 refine wpAny_bind (wpAny_setState_of hS rfl fit ?_)
 dsimp only
 rw [if_neg (by simp),he]
 dsimp only
 refine wpAny_pure (wpAny_bind (wpAny_setField_rec hI (by simp) fun h' hI' sb=>wpAny_pure ⟨x,rfl,wpAny_pure (hQ h' ?_ sb)⟩))
 show h'.get? I=_
 rw [hI']
 simp [rawInt]
theorem Zeo {Q:Option Value->Shared->Prop} {h0:Heap} {o:Obj} {vs:Array Value} (hh:A.handled=none) (ho:h0.get? I=some {cls:=.type "set_iterator",data:=.fields vs}) (h2:2<vs.size)
 (sb0:∀b o,b≠I->s.heap.get? b=some o->h0.get? b=some o) (hQ:∀h',(∀b o,b≠I->s.heap.get? b=some o->h'.get? b=some o)->Q none {s with heap:=h'}):
 wpAny (model prog w) A.in1 (do
  setField (.ref I) 2 Value.none
  let e <-newExc (Value.type "StopIteration") []
  raiseNew e:Sem PySem.Fin) (fun fin s'=>∃v,fin=Fin.done (Flow.ret v)/\wpAny (model prog w) A (pure (some v)) Q E s')
  (fun e s'=>wpAny (model prog w) A (do
   let b <-isInstance e (Value.type "StopIteration")
   if b=true then pure none else throw e) Q E s') {s with heap:=h0}:=by
 refine wpAny_bind (wpAny_setField_rec (s:= {s with heap:=h0}) ho (by simpa using h2) fun h1 h1' sb=>?_)
 refine wpAny_bind ?_
 simp only [newExc,newTuple]
 refine wpAny_bind (wpAny_newObj_type ?_ (by size_fits))
 refine wpAny_bind (m:=firstArgMember _ _) (wpAny_of_eq (a:=Value.none) (by first|rfl|(simp only [firstArgMember];rfl)) ?_)
 refine wpAny_newObj_type ?_ (by size_fits)
 simp only [raiseNew]
 refine wpAny_bind (wpAny_handled ?_)
 rw [show A.in1.handled=none from hh]
 refine wpAny_bind (wpAny_pure (wpAny_throw ?_))
 refine wpAny_bind (wpAny_isInstance (T:="StopIteration") (b:=true) ⟨_,Heap.get?_push_size _ rfl,rfl⟩ isSubtype_stop ?_)
 exact wpAny_pure (hQ _ fun b o hb e=>Heap.get?_push_of_some _ (Heap.get?_push_of_some _ ((sb.2 b hb).trans (sb0 b o hb e))))
theorem ZkC {pl:Array Value} {m:Nat} {Q:Option Value->Shared->Prop} (hh:A.handled=none) (hI:Zcy s.heap I (.ref Fr) i a n ep) (hF:s.heap.get? Fr=some {cls:=.type "tuple",data:=.seq pl m}) (hS:s.heap.get? a=some (qS es ep t)) (fit:t.fits es.size=true) (hn:es.size=n)
 (hp:pl[i]?=none) (hQ:∀h',(∀b o,b≠I->s.heap.get? b=some o->h'.get? b=some o)->Q none {s with heap:=h'}):wpAny (model prog w) A (pyNext (.ref I)) Q E s:=by
 have hT:s.TypeIs (.ref I) "set_iterator":=⟨_,hI,rfl⟩
 unfold pyNext
 refine wpAny_bind (wpAny_attempt (wpAny_callSpecial?_slot (name:=Str.ofString "__next__") hT ZO (wpAny_call_entry ZO hT z8 ?_ (YA _))))
 unfold Builtin.«set_iterator.__next__»
 refine wpAny_bind (m:=slotArgs _ _ _) (wpAny_pure ?_)
 refine wpAny_bind (wpAny_fieldsOf hI rfl ?_)
 dsimp only
 refine wpAny_bind (wpAny_setEntries_of hS rfl fit ?_)
 rw [if_neg (by rw [hn];simp)]
 refine wpAny_bind (wpAny_seqItems hF rfl ?_)
 dsimp only
 rw [Int.toNat_natCast,hp]
 refine wpAny_bind (wpAny_setField_rec hI (by simp) fun h' hI' sb=>?_)
 exact Zeo (o:=qS es ep t) hh hI' (by simp) (fun b o hb e=>(sb.2 b hb).trans e) hQ
theorem Zli {hx:Int} {x:Value} {Q:Option Value->Shared->Prop} (bt:w.params.followText "set-order"=true) (hI:Zcy s.heap I (.int 0 0) i a n ep) (hS:s.heap.get? a=some (qS es ep t)) (fit:t.fits es.size=true) (hn:es.size=n)
 (he:(pickOrder (w.params.setOrder a ep) es)[i]?=some (hx,x)) (hQ:∀h',Zcy h' I (.int 0 0) (i+1) a n ep->Heap.SameBut I s.heap h'->Q (some x) {s with heap:=h'}):wpAny (model prog w) A (pyNext (.ref I)) Q E s:=by
 have hT:s.TypeIs (.ref I) "set_iterator":=⟨_,hI,rfl⟩
 unfold pyNext
 refine wpAny_bind (wpAny_attempt (wpAny_callSpecial?_slot (name:=Str.ofString "__next__") hT ZO (wpAny_call_entry ZO hT z8 ?_ (YA _))))
 unfold Builtin.«set_iterator.__next__»
 refine wpAny_bind (m:=slotArgs _ _ _) (wpAny_pure ?_)
 refine wpAny_bind (wpAny_fieldsOf hI rfl ?_)
 dsimp only
 refine wpAny_bind (wpAny_setEntries_of hS rfl fit ?_)
 rw [if_neg (by rw [hn];simp)]
 refine wpAny_bind ?_
 unfold setNext setsByText
 rw [Int.toNat_natCast,Int.toNat_natCast]
 refine wpAny_bind (wpAny_setState_of hS rfl fit ?_)
 dsimp only
 refine wpAny_bind (wpAny_bind (wpAny_askSetting (wpAny_pure ?_)))
 show wpAny _ _ (if w.params.followText "set-order"=true then _ else _) _ _ s
 rw [if_pos bt,if_neg (by simp)]
 unfold setWalk setsByText
 refine wpAny_bind (wpAny_bind (wpAny_setState_of hS rfl fit ?_))
 dsimp only
 refine wpAny_bind (wpAny_bind (wpAny_askSetting (wpAny_pure ?_)))
 show wpAny _ _ (if w.params.followText "set-order"=true then _ else _) _ _ s
 rw [if_pos bt]
 refine wpAny_bind (wpAny_askSetting (wpAny_pure ?_))
 show wpAny _ _ (pure (Option.map _ (pickOrder (w.params.setOrder a ep) es)[i]?)) _ _ s
 rw [he]
 refine wpAny_pure ?_
 dsimp only [Option.map]
 refine wpAny_bind (wpAny_setField_rec hI (by simp) fun h1 hI1 sb1=>?_)
 refine wpAny_bind (wpAny_setField_rec (s:= {s with heap:=h1}) hI1 (by simp) fun h2 hI2 sb2=>wpAny_pure ⟨x,rfl,wpAny_pure (hQ h2 ?_ (sb1.trans sb2))⟩)
 show h2.get? I=_
 rw [hI2]
 simp [rawInt]
theorem ZnH {Q:Option Value->Shared->Prop} (bt:w.params.followText "set-order"=true) (hh:A.handled=none) (hI:Zcy s.heap I (.int 0 0) i a n ep) (hS:s.heap.get? a=some (qS es ep t)) (fit:t.fits es.size=true) (hn:es.size=n)
 (he:(pickOrder (w.params.setOrder a ep) es)[i]?=none) (hQ:∀h',(∀b o,b≠I->s.heap.get? b=some o->h'.get? b=some o)->Q none {s with heap:=h'}):wpAny (model prog w) A (pyNext (.ref I)) Q E s:=by
 have hT:s.TypeIs (.ref I) "set_iterator":=⟨_,hI,rfl⟩
 unfold pyNext
 refine wpAny_bind (wpAny_attempt (wpAny_callSpecial?_slot (name:=Str.ofString "__next__") hT ZO (wpAny_call_entry ZO hT z8 ?_ (YA _))))
 unfold Builtin.«set_iterator.__next__»
 refine wpAny_bind (m:=slotArgs _ _ _) (wpAny_pure ?_)
 refine wpAny_bind (wpAny_fieldsOf hI rfl ?_)
 dsimp only
 refine wpAny_bind (wpAny_setEntries_of hS rfl fit ?_)
 rw [if_neg (by rw [hn];simp)]
 refine wpAny_bind ?_
 unfold setNext setsByText
 rw [Int.toNat_natCast,Int.toNat_natCast]
 refine wpAny_bind (wpAny_setState_of hS rfl fit ?_)
 dsimp only
 refine wpAny_bind (wpAny_bind (wpAny_askSetting (wpAny_pure ?_)))
 show wpAny _ _ (if w.params.followText "set-order"=true then _ else _) _ _ s
 rw [if_pos bt,if_neg (by simp)]
 unfold setWalk setsByText
 refine wpAny_bind (wpAny_bind (wpAny_setState_of hS rfl fit ?_))
 dsimp only
 refine wpAny_bind (wpAny_bind (wpAny_askSetting (wpAny_pure ?_)))
 show wpAny _ _ (if w.params.followText "set-order"=true then _ else _) _ _ s
 rw [if_pos bt]
 refine wpAny_bind (wpAny_askSetting (wpAny_pure ?_))
 show wpAny _ _ (pure (Option.map _ (pickOrder (w.params.setOrder a ep) es)[i]?)) _ _ s
 rw [he]
 refine wpAny_pure ?_
 dsimp only [Option.map]
 exact Zeo (h0:=s.heap) (o:=qS es ep t) hh hI (by simp) (fun b o hb e=>e) hQ
end
theorem ZcB {α:Type}:∀(l:List α) (i:Nat) (h:i<l.length),(l[i]::l.eraseIdx i).Perm l
 |x::r,0,_=>List.Perm.refl _
 |x::r,i+1,h=>by
  have h':i<r.length:=by simpa using h
  exact (List.Perm.swap x r[i] (r.eraseIdx i)).trans (List.Perm.cons x (ZcB r i h'))
theorem Zki {α:Type} (next:Nat->Nat):∀(f k:Nat) (left:List α) (out:Array α),left.length=f->∃r:List α,(pickOrder.go next f k left out).toList=out.toList++r/\r.Perm left
 |0,k,left,out,h=>by
  rw [length_eq_zero_iff.mp h]
  exact ⟨[],by simp [pickOrder.go],List.Perm.refl _⟩
 |f+1,k,left,out,h=>by
  have hlt:next k%left.length<left.length:=Nat.mod_lt _ (by omega)
  unfold pickOrder.go
  rw [List.getElem?_eq_getElem hlt]
  dsimp only
  obtain ⟨r,e,p⟩:=Zki next f (k+1) (left.eraseIdx (next k%left.length)) (out.push left[next k%left.length]) (by rw [List.length_eraseIdx_of_lt hlt,h];rfl)
  refine ⟨left[next k%left.length]::r,by rw [e];simp,(List.Perm.cons _ p).trans ?_⟩
  exact ZcB left _ hlt
theorem ZdG {α:Type} (next:Nat->Nat) (xs:Array α):(pickOrder next xs).toList.Perm xs.toList:=by
 obtain ⟨r,e,p⟩:=Zki next xs.size 0 xs.toList #[] (by simp)
 unfold pickOrder
 rw [e]
 simpa using p
section
variable {prog:Program} {w:World} {A:Around} {E:Value->Shared->Prop}
theorem ZdB {src:Source} {n:Nat} {Q:Nat->Shared->Prop} {s:Shared} (hn:0<n) (h:∀i d,i<n->Q i {s with drawn:=d}):wpAny (model prog w) A (choose src n) Q E s:=by
 intro Γ p hΓ
 unfold choose
 rw [Sem.wp_choose]
 exact ⟨by omega,h _ _ (Nat.mod_lt _ hn)⟩
theorem Zh5 {α:Type}:∀(n:Nat) (xs:List α) (s:Shared) (Q:List α->Shared->Prop),xs.length=n->(∀r d,r.Perm xs->Q r {s with drawn:=d})->wpAny (model prog w) A (drawOrder n xs) Q E s
 |0,xs,s,Q,h,q=>by
  rw [length_eq_zero_iff.mp h]
  unfold drawOrder
  exact wpAny_pure (by have:=q [] s.drawn (by rw [length_eq_zero_iff.mp h]);exact this)
 |n+1,[],s,Q,h,q=>by simp at h
 |n+1,x::xs,s,Q,h,q=>by
  unfold drawOrder
  refine wpAny_bind (ZdB (by simp) fun i d hi=>?_)
  rw [List.getElem?_eq_getElem hi]
  dsimp only
  refine wpAny_bind (Zh5 n ((x::xs).eraseIdx i) _ _ (by rw [List.length_eraseIdx_of_lt hi,h];rfl) fun r d' p=>?_)
  exact wpAny_pure (q _ d' ((List.Perm.cons _ p).trans (ZcB _ i hi)))
end
section
variable {prog:Program} {w:World} {A:Around} {E:Value->Shared->Prop} {s:Shared} {I a:Addr} {i n ep sl:Nat} {es:Array (Int×Value)} {t:SetTable}
theorem Zif {hx:Int} {x:Value} {j:Nat} {Q:Option Value->Shared->Prop} (bt:w.params.followText "set-order"=false) (hI:Zcy s.heap I (.int sl 0) i a n ep) (hS:s.heap.get? a=some (qS es ep t)) (fit:t.fits es.size=true) (hn:es.size=n) (one:n<=1) (led:t.led=true)
 (he:es[SetTable.below t.place sl]?=some (hx,x)) (hp:t.place[SetTable.below t.place sl]?=some j) (hQ:∀h',Zcy h' I (.int (j+1:Nat) 0) (i+1) a n ep->Heap.SameBut I s.heap h'->Q (some x) {s with heap:=h'}):wpAny (model prog w) A (pyNext (.ref I)) Q E s:=by
 have hT:s.TypeIs (.ref I) "set_iterator":=⟨_,hI,rfl⟩
 unfold pyNext
 refine wpAny_bind (wpAny_attempt (wpAny_callSpecial?_slot (name:=Str.ofString "__next__") hT ZO (wpAny_call_entry ZO hT z8 ?_ (YA _))))
 unfold Builtin.«set_iterator.__next__»
 refine wpAny_bind (m:=slotArgs _ _ _) (wpAny_pure ?_)
 refine wpAny_bind (wpAny_fieldsOf hI rfl ?_)
 dsimp only
 refine wpAny_bind (wpAny_setEntries_of hS rfl fit ?_)
 rw [if_neg (by rw [hn];simp)]
 refine wpAny_bind ?_
 unfold setNext setsByText
 rw [Int.toNat_natCast,Int.toNat_natCast,Int.toNat_natCast]
 refine wpAny_bind (wpAny_setState_of hS rfl fit ?_)
 dsimp only
 refine wpAny_bind (wpAny_bind (wpAny_askSetting (wpAny_pure ?_)))
 show wpAny _ _ (if w.params.followText "set-order"=true then _ else _) _ _ s
 rw [if_neg (by rw [bt];exact Bool.false_ne_true)]
 show wpAny _ _ (if (!t.plain && decide (es.size>1))=true then _ else _) _ _ s
 rw [if_neg (by rw [decide_eq_false (by omega),Bool.and_false];exact Bool.false_ne_true)]
 refine wpAny_bind ?_
 show wpAny _ _ (if (!t.led && !es.isEmpty)=true then _ else _) _ _ s
 rw [if_neg (by rw [led];exact Bool.false_ne_true)]
 refine wpAny_pure ?_
 rw [he,hp]
 refine wpAny_pure ?_
 dsimp only
 refine wpAny_bind (wpAny_setField_rec hI (by simp) fun h1 hI1 sb1=>?_)
 refine wpAny_bind (wpAny_setField_rec (s:= {s with heap:=h1}) hI1 (by simp) fun h2 hI2 sb2=>wpAny_pure ⟨x,rfl,wpAny_pure (hQ h2 ?_ (sb1.trans sb2))⟩)
 show h2.get? I=_
 rw [hI2]
 simp [rawInt]
theorem ZfT {Q:Option Value->Shared->Prop} (bt:w.params.followText "set-order"=false) (hh:A.handled=none) (hI:Zcy s.heap I (.int sl 0) i a n ep) (hS:s.heap.get? a=some (qS es ep t)) (fit:t.fits es.size=true) (hn:es.size=n) (one:n<=1) (led:t.led=true)
 (he:es[SetTable.below t.place sl]?=none) (hQ:∀h',(∀b o,b≠I->s.heap.get? b=some o->h'.get? b=some o)->Q none {s with heap:=h'}):wpAny (model prog w) A (pyNext (.ref I)) Q E s:=by
 have hT:s.TypeIs (.ref I) "set_iterator":=⟨_,hI,rfl⟩
 unfold pyNext
 refine wpAny_bind (wpAny_attempt (wpAny_callSpecial?_slot (name:=Str.ofString "__next__") hT ZO (wpAny_call_entry ZO hT z8 ?_ (YA _))))
 unfold Builtin.«set_iterator.__next__»
 refine wpAny_bind (m:=slotArgs _ _ _) (wpAny_pure ?_)
 refine wpAny_bind (wpAny_fieldsOf hI rfl ?_)
 dsimp only
 refine wpAny_bind (wpAny_setEntries_of hS rfl fit ?_)
 rw [if_neg (by rw [hn];simp)]
 refine wpAny_bind ?_
 unfold setNext setsByText
 rw [Int.toNat_natCast,Int.toNat_natCast,Int.toNat_natCast]
 refine wpAny_bind (wpAny_setState_of hS rfl fit ?_)
 dsimp only
 refine wpAny_bind (wpAny_bind (wpAny_askSetting (wpAny_pure ?_)))
 show wpAny _ _ (if w.params.followText "set-order"=true then _ else _) _ _ s
 rw [if_neg (by rw [bt];exact Bool.false_ne_true)]
 show wpAny _ _ (if (!t.plain && decide (es.size>1))=true then _ else _) _ _ s
 rw [if_neg (by rw [decide_eq_false (by omega),Bool.and_false];exact Bool.false_ne_true)]
 refine wpAny_bind ?_
 show wpAny _ _ (if (!t.led && !es.isEmpty)=true then _ else _) _ _ s
 rw [if_neg (by rw [led];exact Bool.false_ne_true)]
 refine wpAny_pure ?_
 rw [he]
 refine wpAny_pure ?_
 dsimp only
 exact Zeo (h0:=s.heap) (o:=qS es ep t) hh hI (by simp) (fun b o hb e=>e) hQ
theorem Zb7 {first:Value} {Q:Value->Shared->Prop} (hI:Zcy s.heap I first i a n ep) (h:Q (.ref I) s):wpAny (model prog w) A (pyIter (.ref I)) Q E s:=by
 have hT:s.TypeIs (.ref I) "set_iterator":=⟨_,hI,rfl⟩
 refine wpAny_pyIter_slot hT ZbY (wpAny_call_entry ZbY hT ZdY ?_ (ZeI _))
 show wpAny _ _ (ret (.ref I)) _ _ s
 exact wpAny_pure ⟨_,rfl,"set_iterator",_,hT,ZO.lookup,h⟩
theorem ZmY {Q:Value->Shared->Prop} (hS:s.heap.get? a=some (qS es ep t)) (fit:t.fits es.size=true) (tab:ZhV w t es.size)
 (hA:¬(w.params.followText "set-order"=false/\1<es.size)->Q (.ref s.heap.objs.size) {s with heap:=s.heap.push {cls:=.type "set_iterator",data:=.fields #[.int 0 0,.int 0 0,.ref a,.int es.size 0,.int ep 0]} })
 (hB:w.params.followText "set-order"=false->∀(r:List Nat) d,r.Perm (List.range es.size)->Q (.ref (s.heap.objs.size+1)) {s with heap:=(s.heap.push {cls:=.type "tuple",data:=.seq (r.map fun i:Nat=>rawInt i).toArray}).push {cls:=.type "set_iterator",data:=.fields #[.ref s.heap.objs.size,.int 0 0,.ref a,.int es.size 0,.int ep 0]},drawn:=d})
 (small:es.size<=sizeLine):wpAny (model prog w) A (pyIter (.ref a)) Q E s:=by
 have hT:s.TypeIs (.ref a) "set":=⟨_,hS,rfl⟩
 refine wpAny_pyIter_slot hT F.slot_set_iter (wpAny_call_entry F.slot_set_iter hT Zd6 ?_ (F.args_set_iter_1 _))
 unfold Builtin.«frozenset.__iter__»
 refine wpAny_bind (m:=Builtin.Frozenset.slot0 _ _) (wpAny_bind (m:=slotArgs _ _ _) (wpAny_pure ?_))
 refine wpAny_pure ?_
 dsimp only
 unfold Builtin.Frozenset.sizeOf
 refine wpAny_bind (wpAny_bind (wpAny_setEntries_of hS rfl fit (wpAny_pure ?_)))
 unfold setDrawn setsByText
 refine wpAny_bind (wpAny_bind (wpAny_setState_of hS rfl fit ?_))
 dsimp only
 refine wpAny_bind (wpAny_bind (wpAny_askSetting (wpAny_pure (wpAny_pure ?_))))
 show wpAny _ _ (if (!w.params.followText "set-order" && (!t.plain && decide (es.size>1)))=true then _ else _) _ _ s
 have hep:∀(s':Shared) (Q':Nat->Shared->Prop),s'.heap.get? a=some (qS es ep t)->Q' ep s'->wpAny (model prog w) A.in1 (setEpoch a) Q' E s':=fun s' Q' h1 h2=>wpAny_setEpoch_of h1 rfl fit h2
 refine wpAny_ite_split (fun c=>?_) fun c=>?_
 ·have c1:w.params.followText "set-order"=false:=by
   cases e:w.params.followText "set-order" with
   |false=>rfl
   |true=>rw [e] at c;simp at c
  refine wpAny_bind (Zh5 es.size (List.range es.size) s _ (by simp) fun r d pm=>?_)
  refine wpAny_bind (wpAny_newTuple ?_ (by rw [length_map,pm.length_eq,length_range];exact small))
  refine wpAny_bind (hep _ _ (Heap.get?_push_of_some _ hS) ?_)
  refine wpAny_bind (wpAny_newObj_type (wpAny_pure ⟨_,rfl,"set_iterator",_,⟨_,Heap.get?_push_size _ rfl,rfl⟩,ZO.lookup,?_⟩))
  have:=hB c1 r d pm
  simpa [Heap.size_push,rawInt] using this
 ·refine wpAny_bind (wpAny_pure ?_)
  refine wpAny_bind (hep _ _ hS ?_)
  refine wpAny_bind (wpAny_newObj_type (wpAny_pure ⟨_,rfl,"set_iterator",_,⟨_,Heap.get?_push_size _ rfl,rfl⟩,ZO.lookup,?_⟩))
  refine hA fun ⟨e1,e2⟩=>c ?_
  rw [e1,tab.2 (by omega),decide_eq_true (by omega)]
  rfl
end
abbrev vals (es:Array (Int×Value)):List Value:=es.toList.map (·.2)
theorem Zl8 {es:Array (Int×Value)} {p:Nat} {v:Value} (h:(vals es)[p]?=some v):∃hx,es[p]?=some (hx,v):=by
 rw [List.getElem?_map] at h
 obtain ⟨⟨hx,x⟩,e,rfl⟩:=Option.map_eq_some_iff.mp h
 exact ⟨hx,by rw [<-Array.getElem?_toList];exact e⟩
theorem ZnO {α:Type} {l:List α} {n:Nat} (h:l.length<=n):l.toArray[n]?=none:=by
 rw [Array.getElem?_eq_none]
 simpa using h
section
variable {prog:Program} {w:World} {A:Around} {I Fr a:Addr} {es:Array (Int×Value)} {t:SetTable} {ep:Nat}
theorem ZiM (hh:A.handled=none) (nIF:Fr≠I) (nIa:a≠I) (fit:t.fits es.size=true) {r:List Nat} (hr:r.Perm (List.range es.size)):
 WalksS prog w A I [I,Fr,a] [I] (fun x y=>y=x) es.size (fun i v=>(r.map fun p=>(vals es).getD p Value.none)[i]?=some v)
  (fun i s=>Zcy s.heap I (.ref Fr) i a es.size ep/\s.heap.get? Fr=some {cls:=.type "tuple",data:=.seq (r.map fun i:Nat=>rawInt i).toArray}/\s.heap.get? a=some (qS es ep t)) where
 sub:=fun b hb=>by rw [mem_singleton.mp hb];simp
 grefl:=fun _=>rfl
 gtrans:=fun _ _ _ h1 h2=>h2.trans h1
 frame:=fun i s h' tk st _ k=>⟨k I (by simp) _ st.1,k Fr (by simp) _ st.2.1,k a (by simp) _ st.2.2⟩
 item:=fun i s Q E hi st hQ=>by
  have hl:=hr.length_eq
  rw [length_range] at hl
  have hri:i<r.length:=by omega
  have hp:r[i]<es.size:=List.mem_range.mp (hr.mem_iff.mp (List.getElem_mem hri))
  have hv:(vals es)[r[i]]?=some ((vals es).getD r[i] Value.none):=by
   rw [List.getD_eq_getElem?_getD,List.getElem?_eq_getElem (by simpa using hp)]
   rfl
  obtain ⟨hx,he⟩:=Zl8 hv
  refine Zix st.1 st.2.1 st.2.2 fit rfl (p:=r[i]) (by simp [hri]) he fun h' hI sb=>hQ _ _ ?_ ⟨hI,(sb.2 Fr nIF).trans st.2.1,(sb.2 a nIa).trans st.2.2⟩ ⟨fun b o hb e=>(sb.2 b (fun z=>hb (by simp [z]))).trans e,rfl,rfl,rfl,Nat.le_refl _⟩
  rw [List.getElem?_map,List.getElem?_eq_getElem hri]
  rfl
 done:=fun s Q E st hQ=>by
  have hl:=hr.length_eq
  rw [length_range] at hl
  exact ZkC hh st.1 st.2.1 st.2.2 fit rfl (ZnO (by rw [length_map];omega)) fun h' k=>hQ _ ⟨fun b o hb e=>k b o (fun z=>hb (by simp [z])) e,rfl,rfl,rfl,Nat.le_refl _⟩
 self:=fun i s Q E st hQ=>Zb7 st.1 hQ
theorem ZkQ (bt:w.params.followText "set-order"=true) (hh:A.handled=none) (nIa:a≠I) (fit:t.fits es.size=true):
 WalksS prog w A I [I,a] [I] (fun x y=>y=x) es.size (fun i v=>((pickOrder (w.params.setOrder a ep) es).toList.map (·.2))[i]?=some v)
  (fun i s=>Zcy s.heap I (.int 0 0) i a es.size ep/\s.heap.get? a=some (qS es ep t)) where
 sub:=fun b hb=>by rw [mem_singleton.mp hb];simp
 grefl:=fun _=>rfl
 gtrans:=fun _ _ _ h1 h2=>h2.trans h1
 frame:=fun i s h' tk st _ k=>⟨k I (by simp) _ st.1,k a (by simp) _ st.2⟩
 item:=fun i s Q E hi st hQ=>by
  have hl:=(ZdG (w.params.setOrder a ep) es).length_eq
  rw [Array.length_toList,Array.length_toList] at hl
  have hi':i<(pickOrder (w.params.setOrder a ep) es).size:=by omega
  refine Zli bt st.1 st.2 fit rfl (hx:=(pickOrder (w.params.setOrder a ep) es)[i].1) (x:=(pickOrder (w.params.setOrder a ep) es)[i].2) (by rw [Array.getElem?_eq_getElem hi']) fun h' hI sb=>hQ _ _ ?_ ⟨hI,(sb.2 a nIa).trans st.2⟩ ⟨fun b o hb e=>(sb.2 b (fun z=>hb (by simp [z]))).trans e,rfl,rfl,rfl,Nat.le_refl _⟩
  rw [List.getElem?_map,Array.getElem?_toList,Array.getElem?_eq_getElem hi']
  rfl
 done:=fun s Q E st hQ=>by
  have hl:=(ZdG (w.params.setOrder a ep) es).length_eq
  rw [Array.length_toList,Array.length_toList] at hl
  exact ZnH bt hh st.1 st.2 fit rfl (by rw [Array.getElem?_eq_none];omega) fun h' k=>hQ _ ⟨fun b o hb e=>k b o (fun z=>hb (by simp [z])) e,rfl,rfl,rfl,Nat.le_refl _⟩
 self:=fun i s Q E st hQ=>Zb7 st.1 hQ
theorem Zej (j:Nat):SetTable.below #[j] 0=0:=by
 simp [SetTable.below,SetTable.below.go]
theorem ZiF (j:Nat):SetTable.below #[j] (j+1)=1:=by
 simp [SetTable.below,SetTable.below.go]
theorem Zi4 (bt:w.params.followText "set-order"=false) (hh:A.handled=none) (nIa:a≠I) (fit:t.fits es.size=true) (one:es.size<=1) (led:t.led=true):
 ∃g:Nat->Nat,g 0=0/\WalksS prog w A I [I,a] [I] (fun x y=>y=x) es.size (fun i v=>(vals es)[i]?=some v)
  (fun i s=>Zcy s.heap I (.int (g i:Nat) 0) i a es.size ep/\s.heap.get? a=some (qS es ep t)):=by
 have hps:t.place.size=es.size:=by
  unfold SetTable.fits at fit
  rw [Bool.and_eq_true] at fit
  exact eq_of_beq fit.1
 by_cases h0:es.size=0
 ·have e0:es=#[]:=Array.eq_empty_of_size_eq_zero h0
  refine ⟨fun _=>0,rfl,fun b hb=>by rw [mem_singleton.mp hb];simp,fun _=>rfl,fun _ _ _ h1 h2=>h2.trans h1,fun i s h' tk st _ k=>⟨k I (by simp) _ st.1,k a (by simp) _ st.2⟩,fun i s Q E hi st hQ=>by omega,fun s Q E st hQ=>?_,fun i s Q E st hQ=>Zb7 st.1 hQ⟩
  exact ZfT bt hh st.1 st.2 fit rfl one led (by rw [e0];simp) fun h' k=>hQ _ ⟨fun b o hb e=>k b o (fun z=>hb (by simp [z])) e,rfl,rfl,rfl,Nat.le_refl _⟩
 ·have h1:es.size=1:=by omega
  obtain ⟨j,hj⟩:∃j,t.place=#[j]:=by
   have:t.place.size=1:=hps.trans h1
   exact ⟨t.place[0],by
    apply Array.ext
    ·simpa using this
    ·intro i hi1 hi2
     have:i=0:=by simp at hi2;omega
     subst this
     rfl⟩
  have hle:(vals es).length=1:=by simpa using h1
  have hv:(vals es)[0]?=some ((vals es).getD 0 Value.none):=by
   rw [List.getD_eq_getElem?_getD,List.getElem?_eq_getElem (by omega)]
   rfl
  obtain ⟨hx,he⟩:=Zl8 hv
  refine ⟨fun i=>if i=0 then 0 else j+1,rfl,fun b hb=>by rw [mem_singleton.mp hb];simp,fun _=>rfl,fun _ _ _ h1 h2=>h2.trans h1,fun i s h' tk st _ k=>⟨k I (by simp) _ st.1,k a (by simp) _ st.2⟩,fun i s Q E hi st hQ=>?_,fun s Q E st hQ=>?_,fun i s Q E st hQ=>Zb7 st.1 hQ⟩
  ·have:i=0:=by omega
   subst this
   refine Zif bt st.1 st.2 fit rfl one led (hx:=hx) (j:=j) ?_ ?_ fun h' hI sb=>hQ _ _ hv ⟨hI,(sb.2 a nIa).trans st.2⟩ ⟨fun b o hb e=>(sb.2 b (fun z=>hb (by simp [z]))).trans e,rfl,rfl,rfl,Nat.le_refl _⟩
   ·rw [hj]
    show es[SetTable.below #[j] 0]?=_
    rw [Zej]
    exact he
   ·rw [hj]
    show (#[j]:Array Nat)[SetTable.below #[j] 0]?=_
    rw [Zej]
    rfl
  ·have st1:=st.1
   rw [h1] at st1
   have st1':Zcy s.heap I (.int (j+1:Nat) 0) 1 a es.size ep:=by rw [h1];exact st1
   exact ZfT bt hh st1' st.2 fit rfl one led (by rw [hj,ZiF];exact Array.getElem?_eq_none (by omega)) fun h' k=>hQ _ ⟨fun b o hb e=>k b o (fun z=>hb (by simp [z])) e,rfl,rfl,rfl,Nat.le_refl _⟩
end
section
variable {prog:Program} {w:World} {A:Around} {E:Value->Shared->Prop} {s:Shared} {a:Addr} {es:Array (Int×Value)} {t:SetTable} {ep:Nat}
theorem ZhI {Q:Bool->Shared->Prop} (hS:s.heap.get? a=some (qS es ep t)) (h:Q false s):wpAny (model prog w) A (Builtin.List.listLengthHint (.ref a)) Q E s:=by
 have hT:s.TypeIs (.ref a) "set":=⟨_,hS,rfl⟩
 unfold Builtin.List.listLengthHint
 refine wpAny_bind (wpAny_specialOf hT F.slot_set_len.lookup ?_)
 wp_delta
 refine wpAny_bind (wpAny_isInstance (T:="set") (b:=true) hT sub_set_self ?_)
 show wpAny _ _ (typeOf (Value.ref a) >>=_) _ _ _
 refine wpAny_bind (wpAny_typeOf (T:="set") hT ?_)
 exact wpAny_pure h
theorem Zfj {acc:Array Value} {n:Nat} {qs:List Value} (h:ItemsOf (fun i v=>qs[i]?=some v) acc n) (hn:qs.length=n):acc.toList=qs:=by
 obtain ⟨h1,h2⟩:=h
 refine List.ext_getElem? fun i=>?_
 rw [Array.getElem?_toList]
 by_cases hi:i<acc.size
 ·have:=h2 i acc[i] (by rw [Array.getElem?_eq_getElem hi])
  rw [Array.getElem?_eq_getElem hi,this]
 ·rw [Array.getElem?_eq_none (by omega),List.getElem?_eq_none (by omega)]
theorem Zpa {R:Result->Shared->Prop} {G:Array GenState->Array GenState->Prop} {n c0:Nat} {P:Nat->Value->Prop} {St:Nat->Shared->Prop} {I S:Addr} {fp:List Addr} {res:Value} {z:Shared} (W:WalksS prog w A.in1 I fp [I] G n P St) (out:S∉fp) (st:St 0 z) (hn:n<=sizeLine)
 (h0:z.heap.get? S=some {cls:=.type "list",data:=.seq #[] c0}) (fin:∀s' acc c',Moved (S::[I]) G z s'->s'.heap.get? S=some {cls:=.type "list",dict:=none,data:=.seq acc c',slots:=#[]}->ItemsOf P acc n->R (.ok (.ret res)) s'):
 wpAny (model prog w) A.in1 (do
  rule "list.extend.makes-room"
  Builtin.List.listTouch (.ref S)
  again (.builtin "list.extend.loop" ⟨[.ref S,.ref I,res],[]⟩))
  (fun fin s'=>match fin with| .done f=>R (.ok f) s'| .again c'=>c'.quiet=true/\codeAny (model prog w) A c' R s') (fun e s'=>R (.error e) s') z:=by
 refine wpAny_bind (wpAny_rule ?_)
 refine wpAny_bind ?_
 show wpAny _ _ (updateSeq S (·.push .none) >>=fun _=>updateSeq S (·.pop)) _ _ _
 refine wpAny_bind (wpAny_updateSeq h0 rfl ?_)
 have g1:=Heap.get?_update_self (Obj.mapSeq (·.push Value.none)) h0 rfl
 refine wpAny_updateSeq (hz:=by seq_fits) g1 rfl ?_
 have g2:=Heap.get?_update_self (Obj.mapSeq (·.pop)) g1 rfl
 have oth:∀b o,b≠S->z.heap.get? b=some o->((z.heap.update S (Obj.mapSeq (·.push Value.none))).update S (Obj.mapSeq (·.pop))).get? b=some o:=fun b o hb e=>
  (Heap.get?_update_other _ _ (Ne.symm hb)).trans ((Heap.get?_update_other _ _ (Ne.symm hb)).trans e)
 refine wpAny_pure ⟨plainId_quiet F.plain_extend_loop _,codeAny_extend_loopS W hn _ out _ n 0 _ #[] _ rfl (Nat.zero_le _) (W.frame 0 z _ z.toks st (Nat.le_refl _) fun b hb o e=>oth b o (fun y=>out (y▸hb)) e) g2 (ItemsOf.nil _) fun s' acc c' mv hS' it=>?_⟩
 refine fin s' acc c' ⟨fun b o hb e=>mv.heap b o hb (oth b o (fun y=>hb (by simp [y])) e),mv.gens,mv.drawn,mv.os,mv.toks⟩ hS' it
theorem ZiL {R:Result->Shared->Prop} (hh:A.handled=none) {S:Addr} {c0:Nat} {res:Value} (h0:s.heap.get? S=some {cls:=.type "list",data:=.seq #[] c0}) (hS:s.heap.get? a=some (qS es ep t)) (fit:t.fits es.size=true) (tab:ZhV w t es.size) (small:es.size<scanBound)
 (hR:∀s' acc c',s'.gens=s.gens->s'.os=s.os->(∀b o,b≠S->s.heap.get? b=some o->s'.heap.get? b=some o)->s'.heap.get? S=some {cls:=.type "list",dict:=none,data:=.seq acc c',slots:=#[]}->acc.toList.Perm (vals es)->R (.ok (.ret res)) s'):
 wpAny (model prog w) A.in1 (Builtin.List.listExtendWith (.ref S) (.ref a) res)
  (fun fin s'=>match fin with| .done f=>R (.ok f) s'| .again c'=>c'.quiet=true/\codeAny (model prog w) A c' R s') (fun e s'=>R (.error e) s') s:=by
 have hsl:sizeLine=16777216:=sizeLine_eq
 have sm:es.size<=sizeLine:=by unfold scanBound at small;omega
 have nSa:S≠a:=fun z=>by rw [z,hS] at h0;simp [qS] at h0
 have lS:S<s.heap.objs.size:=Heap.lt_size h0
 have la:a<s.heap.objs.size:=Heap.lt_size hS
 have vl:(vals es).length=es.size:=by simp
 unfold Builtin.List.listExtendWith
 refine wpAny_bind (wpAny_typeOf (T:="set") ⟨_,hS,rfl⟩ ?_)
 have e1:Builtin.List.listSameRef (.ref S) (.ref a)=false:=by simp [Builtin.List.listSameRef,nSa]
 have e2:(Value.type "set"==Value.type "list")=false:=by decide
 have e3:(Value.type "set"==Value.type "tuple")=false:=by decide
 simp only [e1,e2,e3,Bool.or_false,Bool.false_eq_true,if_false]
 refine wpAny_bind (ZmY hS fit tab (fun no=>?_) (fun bt r d pm=>?_) sm)
 ·have nI:a≠s.heap.objs.size:=Nat.ne_of_lt la
  have kept:∀b o,s.heap.get? b=some o->(s.heap.push {cls:=.type "set_iterator",data:=.fields #[.int 0 0,.int 0 0,.ref a,.int es.size 0,.int ep 0]}).get? b=some o:=fun b o e=>Heap.get?_push_of_some _ e
  have new:Zcy (s.heap.push {cls:=.type "set_iterator",data:=.fields #[.int 0 0,.int 0 0,.ref a,.int es.size 0,.int ep 0]}) s.heap.objs.size (.int 0 0) 0 a es.size ep:=Heap.get?_push_size _ rfl
  refine wpAny_bind (wpAny_holding (ZhI (kept _ _ hS) ?_))
  rw [if_pos (by decide)]
  have out:S∉[s.heap.objs.size,a]:=by
   simp only [mem_cons,List.not_mem_nil,or_false,not_or]
   exact ⟨Nat.ne_of_lt lS,nSa⟩
  have fin:∀(qs:List Value),qs.Perm (vals es)->∀(s':Shared) (acc:Array Value) (c':Nat),Moved (S::[s.heap.objs.size]) (fun x y=>y=x) {s with heap:=s.heap.push {cls:=.type "set_iterator",data:=.fields #[.int 0 0,.int 0 0,.ref a,.int es.size 0,.int ep 0]} } s'->
   s'.heap.get? S=some {cls:=.type "list",dict:=none,data:=.seq acc c',slots:=#[]}->ItemsOf (fun i v=>qs[i]?=some v) acc es.size->R (.ok (.ret res)) s':=fun qs pm s' acc c' mv hS' it=>by
   refine hR s' acc c' mv.gens mv.os (fun b o hb e=>mv.heap b o ?_ (kept b o e)) hS' (by rw [Zfj it (by rw [pm.length_eq,vl])];exact pm)
   simp only [mem_cons,List.not_mem_nil,or_false,not_or]
   exact ⟨hb,Nat.ne_of_lt (Heap.lt_size e)⟩
  cases bt:w.params.followText "set-order" with
  |true=>
   have W:=ZkQ (prog:=prog) (w:=w) (A:=A.in1) (I:=s.heap.objs.size) (a:=a) (es:=es) (t:=t) (ep:=ep) bt hh nI fit
   exact Zpa W out ⟨new,kept _ _ hS⟩ (by omega) (kept _ _ h0) fun s' acc c' mv hS' it=>fin _ ((ZdG _ es).map _) s' acc c' mv hS' it
  |false=>
   have one:es.size<=1:=Nat.le_of_not_lt fun z=>no ⟨bt,z⟩
   obtain ⟨g,g0,W⟩:=Zi4 (prog:=prog) (w:=w) (A:=A.in1) (I:=s.heap.objs.size) (a:=a) (es:=es) (t:=t) (ep:=ep) bt hh nI fit one (tab.1 bt)
   exact Zpa W out ⟨by rw [g0];exact new,kept _ _ hS⟩ (by omega) (kept _ _ h0) fun s' acc c' mv hS' it=>fin _ (List.Perm.refl _) s' acc c' mv hS' it
 ·generalize hF:({cls:=.type "tuple",data:=.seq (r.map fun i:Nat=>rawInt i).toArray}:Obj)=oF
  generalize hO:({cls:=.type "set_iterator",data:=.fields #[.ref s.heap.objs.size,.int 0 0,.ref a,.int es.size 0,.int ep 0]}:Obj)=oI
  have kept:∀b o,s.heap.get? b=some o->((s.heap.push oF).push oI).get? b=some o:=fun b o e=>Heap.get?_push_of_some _ (Heap.get?_push_of_some _ e)
  have sz:(s.heap.push oF).objs.size=s.heap.objs.size+1:=Heap.size_push ..
  have new:((s.heap.push oF).push oI).get? (s.heap.objs.size+1)=some oI:=by
   have:=Heap.get?_push_size (s.heap.push oF) (o:=oI) (by rw [<-hO];rfl)
   rwa [sz] at this
  have newF:((s.heap.push oF).push oI).get? s.heap.objs.size=some oF:=Heap.get?_push_of_some _ (Heap.get?_push_size _ (by rw [<-hF];rfl))
  refine wpAny_bind (wpAny_holding (ZhI (kept _ _ hS) ?_))
  rw [if_pos (by decide)]
  have nF:@Ne Addr s.heap.objs.size (s.heap.objs.size+1):=Nat.ne_of_lt (Nat.lt_succ_self _)
  have nI:@Ne Addr a (s.heap.objs.size+1):=Nat.ne_of_lt (Nat.lt_succ_of_lt la)
  have W:=ZiM (prog:=prog) (w:=w) (A:=A.in1) (I:=s.heap.objs.size+1) (Fr:=s.heap.objs.size) (a:=a) (es:=es) (t:=t) (ep:=ep) hh nF nI fit pm
  have out:S∉[s.heap.objs.size+1,s.heap.objs.size,a]:=by
   simp only [mem_cons,List.not_mem_nil,or_false,not_or]
   exact ⟨Nat.ne_of_lt (Nat.lt_succ_of_lt lS),Nat.ne_of_lt lS,nSa⟩
  refine Zpa W out ⟨new.trans (by rw [<-hO];rfl),newF.trans (by rw [<-hF]),kept _ _ hS⟩ (by omega) (kept _ _ h0) fun s' acc c' mv hS' it=>?_
  have pq:(r.map fun p=>(vals es).getD p Value.none).Perm (vals es):=by
   have h1:=pm.map fun p=>(vals es).getD p Value.none
   have h2:((List.range es.size).map fun p=>(vals es).getD p Value.none)=vals es:=by
    refine List.ext_getElem (by simp) fun i hi1 hi2=>?_
    rw [List.getElem_map,List.getElem_range,List.getD_eq_getElem?_getD,List.getElem?_eq_getElem hi2]
    rfl
   rw [h2] at h1
   exact h1
  refine hR s' acc c' mv.gens mv.os (fun b o hb e=>mv.heap b o ?_ (kept b o e)) hS' (by rw [Zfj it (by rw [pq.length_eq,vl])];exact pq)
  simp only [mem_cons,List.not_mem_nil,or_false,not_or]
  exact ⟨hb,Nat.ne_of_lt (Nat.lt_succ_of_lt (Heap.lt_size e))⟩
end
section
variable {prog:Program} {w:World} {A:Around} {E:Value->Shared->Prop} {s:Shared} {a:Addr}
theorem Zk3 {xs:List V} {us vs:List Value} (h:ZD xs us) (p:vs.Perm us):∃ys,ys.Perm xs/\ZD ys vs:=by
 induction p generalizing xs with
 |nil=>exact ⟨xs,List.Perm.refl _,h⟩
 |cons v p ih=>
  cases h with
  |cons r h=>
   obtain ⟨ys,q1,q2⟩:=ih h
   exact ⟨_::ys,List.Perm.cons _ q1,.cons r q2⟩
 |swap x y l=>
  cases h with
  |cons r1 h=>
   cases h with
   |cons r2 h=>exact ⟨_,List.Perm.swap _ _ _,.cons r2 (.cons r1 h)⟩
 |trans p1 p2 ih1 ih2=>
  obtain ⟨ys,q1,q2⟩:=ih2 h
  obtain ⟨zs,q3,q4⟩:=ih1 q2
  exact ⟨zs,q3.trans q1,q4⟩
theorem ZhH {cs:List Nat} {Q:List Value->Shared->Prop} (hh:A.handled=none) (st:Zgv w s.heap a cs)
 (h:∀vs s' (ds:List Nat),ds.Perm cs->ZD (ds.map fun c=>V.str (T [c])) vs->s'.gens=s.gens->s'.os=s.os->(∀b o,s.heap.get? b=some o->s'.heap.get? b=some o)->Q vs s'):wpAny (model prog w) A (collect (.ref a)) Q E s:=by
 obtain ⟨es,ep,t,ho,vl,fit,small,tab⟩:=st
 have hsl:sizeLine=16777216:=sizeLine_eq
 unfold collect
 refine wpAny_bind (wpAny_runValue (codeAny_builtin F.entry_proto_collect ?_))
 rw [Around.under_plainId F.plain_proto_collect _]
 show wpAny _ A.in1 (newList [] >>=fun l=>again (.builtin "list.__iadd__" ⟨[l,.ref a],[]⟩)) _ _ s
 refine wpAny_bind (wpAny_newObj_type ?_)
 refine wpAny_pure ⟨plainId_quiet F.plain_list_iadd _,codeAny_builtin F.entry_list_iadd ?_⟩
 rw [Around.under_plainId F.plain_list_iadd _]
 show wpAny _ A.in1 (Builtin.List.listExtendWith (.ref s.heap.objs.size) (.ref a) (.ref s.heap.objs.size)) _ _ _
 let ZxG:Shared->Prop:=fun s'=>∃acc c',s'.gens=s.gens/\s'.os=s.os/\(∀b o,s.heap.get? b=some o->s'.heap.get? b=some o)/\s'.heap.get? s.heap.objs.size=some {cls:=.type "list",dict:=none,data:=.seq acc c',slots:=#[]}/\acc.toList.Perm (vals es)
 have fin:∀s':Shared,ZxG s'->wpAny (model prog w) A (match Value.ref s.heap.objs.size with
  |Value.ref a=>do
   match (<-load a).data with
    |Data.seq xs _=>pure xs.toList
    |_=>unsupported "internal:collect"
  |_=>unsupported "internal:collect") Q E s':=by
  rintro s' ⟨acc,c',g1,g2,g3,g4,g5⟩
  show wpAny _ A (load s.heap.objs.size >>=_) _ _ _
  refine wpAny_bind (wpAny_load g4 ?_)
  obtain ⟨ys,q1,q2⟩:=Zk3 vl g5
  obtain ⟨ds,hd,rfl⟩:∃ds:List Nat,ds.Perm cs/\(ds.map fun c=>V.str (T [c]))=ys:=by
   have back:∀{ys zs:List V},ys.Perm zs->∀cs:List Nat,zs=(cs.map fun c=>V.str (T [c]))->∃ds:List Nat,ds.Perm cs/\(ds.map fun c=>V.str (T [c]))=ys:=by
    intro ys zs p
    induction p with
    |nil=>
     intro cs e
     exact ⟨[],by rw [show cs=[] by simpa using e.symm],rfl⟩
    |cons v p ih=>
     intro cs e
     cases cs with
     |nil=>cases e
     |cons c r=>
      rw [map_cons] at e
      obtain ⟨e1,e2⟩:=List.cons.inj e
      obtain ⟨ds,q1,q2⟩:=ih r e2
      exact ⟨c::ds,List.Perm.cons _ q1,by rw [map_cons,q2,e1]⟩
    |swap x y l=>
     intro cs e
     match cs,e with
     |c::d::r,e=>
      rw [map_cons,map_cons] at e
      obtain ⟨e1,e2⟩:=List.cons.inj e
      obtain ⟨e3,e4⟩:=List.cons.inj e2
      exact ⟨d::c::r,List.Perm.swap _ _ _,by rw [map_cons,map_cons,e1,e3,e4]⟩
    |trans p1 p2 ih1 ih2=>
     intro cs e
     obtain ⟨ds,q1,q2⟩:=ih2 cs e
     obtain ⟨fs,q3,q4⟩:=ih1 ds q2.symm
     exact ⟨fs,q3.trans q1,q4⟩
   exact back q1 cs rfl
  exact wpAny_pure (h _ s' ds hd q2 g1 g2 g3)
 refine wpAny_mono (ZiL (s:= {s with heap:=s.heap.push {cls:=.type "list",data:=.seq ([]:List Value).toArray} }) (R:=fun r s'=>r=.ok (.ret (.ref s.heap.objs.size))/\ZxG s') hh (Heap.get?_push_size _ rfl) (Heap.get?_push_of_some _ ho) fit tab small fun s' acc c' g1 g2 g3 g4 g5=>⟨rfl,acc,c',g1,g2,fun b o e=>g3 b o (Nat.ne_of_lt (Heap.lt_size e)) (Heap.get?_push_of_some _ e),g4,g5⟩) (fun fn s' hf=>?_) fun e s' he=>?_
 ·cases fn with
  |done fl=>
   obtain ⟨e,hf⟩:=hf
   cases e
   exact fin s' hf
  |again c'=>
   refine ⟨hf.1,codeAny_mono hf.2 fun r s2 hr=>?_⟩
   obtain ⟨e,hr⟩:=hr
   subst e
   exact fin s2 hr
 ·exact absurd he.1 (by intro z;cases z)
end
section
variable {X:Cx}
def Zpd (w:World):List V->Hp->VK->Prop:=fun vs H Q=>match vs with
 |[.ref a]=>∃cs:List Nat,H a=some (Zeq w a cs)/\cs.length<64/\∀l (qs:List Nat),H l=none->qs.Perm cs->qs.Pairwise (fun i j=>i<=j)->Q (.ref l) (upd H l (.lst (qs.map fun c=>V.str (T [c]))))
 |_=>False
theorem ZpL {w:World} (hw:X.w=w) (hc:X.calm=true):Jc X (.builtin "sorted") (Zpd w):=by
 subst hw
 intro Za s σ H vs us Q I r h
 unfold Zpd at h
 split at h
 ·rename_i a
  obtain ⟨cs,hx,h64,q⟩:=h
  obtain ⟨u,rfl,ru⟩:=JA r
  cases ru
  have st:Zgv X.w s.heap a cs:=(I.hok a _ hx).1
  refine ZiT (H:=H) (κ:=oneType') (O:=PyProof.Rows.strKind.toKeyOrd) hc (I.ok.hd hc) fun A E hA=>ZhH hA st fun vs s' ds pm rv g1 g2 g3=>?_
  have I':Inv X Za σ H s':=by
   obtain ⟨h',g',d',t',o'⟩:=s'
   have e1:g'=s.gens:=g1
   have e2:o'=s.os:=g2
   subst e1 e2
   refine I.call' (ch:=[]) rfl ⟨fun b o q n hb hx=>g3 b o q,fun b o q n hb hx=>⟨o.slots,g3 b o q⟩,fun b o q n hx=>n,fun b o q hx=>⟨o,g3 b o q⟩,fun b ys q=>q,fun b o y q=>q,fun b ps q=>⟨#[],by rw [q];simp⟩⟩ (fun b o q=>(I.hok b o q).stay (fun c y hc z=>g3 c y z) (fun c z=>z) fun c ys z=>z) I.bare fun b hb=>(List.not_mem_nil hb).elim
  have hl:(ds.map fun c=>V.str (T [c])).length=ds.length:=length_map ..
  have em:(ds.map fun c=>V.str (T [c]))=(ds.map fun c=>[c]).map fun k=>V.str (T k):=by rw [map_map];rfl
  refine ⟨ds.map fun c=>V.str (T [c]),fun i=>(ds.map fun c=>[c]).getD i [],I',rv,by rw [hl,pm.length_eq];exact h64,fun s2 vs2 E2 Q2 I2 rv2 h2 q2=>?_,fun s2 vs2 I2 rv2=>?_,fun l p hl' pp pu=>?_⟩
  ·rw [em] at rv2
   exact Zha rv2 (by rw [hl] at h2;simpa using h2) q2
  ·rw [em] at rv2
   have:=Zj8 (prog:=X.prog) (w:=X.w) (A:=X.A.in1.in1) (s:=s2) rv2
   rw [hl]
   rw [length_map] at this
   exact this
  ·rw [hl] at pp pu
   have pl:∀i∈p.toList,i<ds.length:=fun i hi=>List.mem_range.mp (pp.mem_iff.mp hi)
   have up:=Zm8 pp pu
   have e:(p.toList.map fun i=>(ds.map fun c=>V.str (T [c])).getD i .non)=(p.toList.map fun i=>ds.getD i 0).map fun c=>V.str (T [c]):=by
    rw [map_map]
    refine map_congr_left fun i hi=>?_
    have hi:=pl i hi
    show _=V.str (T [ds.getD i 0])
    rw [List.getD_eq_getElem?_getD,List.getD_eq_getElem?_getD,List.getElem?_map,List.getElem?_eq_getElem hi]
    rfl
   rw [e]
   refine q l _ hl' ?_ ?_
   ·have h1:(p.toList.map fun i=>ds.getD i 0).Perm ((List.range ds.length).map fun i=>ds.getD i 0):=pp.map _
    have h2:((List.range ds.length).map fun i=>ds.getD i 0)=ds:=by
     refine List.ext_getElem (by simp) fun i hi1 hi2=>?_
     rw [List.getElem_map,List.getElem_range,List.getD_eq_getElem?_getD,List.getElem?_eq_getElem hi2]
     rfl
    rw [h2] at h1
    exact h1.trans pm
   ·rw [List.pairwise_map]
    refine up.imp_of_mem fun {i j} hi hj hij=>?_
    have hi:=pl i hi
    have hj:=pl j hj
    rw [List.getD_eq_getElem?_getD,List.getD_eq_getElem?_getD,List.getElem?_map,List.getElem?_map,List.getElem?_eq_getElem hi,List.getElem?_eq_getElem hj] at hij
    rw [List.getD_eq_getElem?_getD,List.getD_eq_getElem?_getD,List.getElem?_eq_getElem hi,List.getElem?_eq_getElem hj]
    rcases LO.ZqH hij with z|⟨z,_⟩
    ·exact Nat.le_of_lt z
    ·exact Nat.le_of_eq z
 ·exact h.elim
end
theorem Zet (x y:Str) (hi limit:Nat) (hy:y.length=1):∀(l:List Nat) (st:Array Nat×Nat),(∀i∈l,st.2<=i)->l.Pairwise (· <·)->st.1.size+l.length<=limit->
 (forIn l st (StrLaws.occBody x y hi limit)).run.fst.size=st.1.size+l.countP fun i=>decide (i+1<=hi) && Builtin.Str.subAt x y i
 |[],st,_,_,_=>rfl
 |a::l,st,hf,pw,hl=>by
  rw [List.forIn_cons]
  unfold StrLaws.occBody
  obtain ⟨p1,p2⟩:=List.pairwise_cons.mp pw
  rw [length_cons] at hl
  by_cases hc:a+y.length<=hi/\Builtin.Str.subAt x y a=true
  ·rw [if_pos ⟨⟨⟨by omega,hf a (mem_cons_self ..)⟩,hc.1⟩,hc.2⟩]
   have:=Zet x y hi limit hy l (st.1.push a,a+y.length) (fun i h=>by have:=p1 i h;show a+y.length<=i;omega) p2 (by rw [Array.size_push];omega)
   rw [Array.size_push] at this
   refine this.trans ?_
   rw [List.countP_cons,if_pos (by rw [hc.2,Bool.and_true,decide_eq_true_eq];omega)]
   omega
  ·rw [if_neg fun z=>hc ⟨z.1.2,z.2⟩]
   have:=Zet x y hi limit hy l st (fun i h=>hf i (mem_cons_of_mem _ h)) p2 (by omega)
   refine this.trans ?_
   rw [List.countP_cons,if_neg]
   ·rfl
   ·intro z
    rw [Bool.and_eq_true,decide_eq_true_eq] at z
    exact hc ⟨by omega,z.2⟩
theorem Zev (l:List Nat) (c:Nat):∀hi,hi<=l.length->(List.range hi).countP (fun i=>decide (l[i]?=some c))=(l.take hi).count c
 |0,_=>rfl
 |hi+1,h=>by
  rw [List.range_succ,List.countP_append,Zev l c hi (by omega),List.take_succ,List.count_append,List.getElem?_eq_getElem (by omega)]
  have e:l[hi]?=some l[hi]:=List.getElem?_eq_getElem (by omega)
  simp [List.count_cons,List.countP_cons,e]
theorem Zic (x y:Str) (c hi:Nat) (hy:L y=[c]) (hh:hi<=(L x).length):(Builtin.Str.occurrences x y 0 hi (x.length+1)).length=((L x).take hi).count c:=by
 have ly:y.length=1:=by rw [<-Z8,hy];rfl
 rw [StrLaws.occ_eq,Array.length_toList,Zet x y hi _ ly _ _ (fun i _=>Nat.zero_le _) (List.pairwise_lt_range' ..) (by rw [List.length_range',<-Z8];simp;omega)]
 rw [<-List.range_eq_range',<-Zev (L x) c hi hh]
 show 0+_=_
 rw [Nat.zero_add,Nat.sub_zero,List.range_succ,List.countP_append]
 have e0:[hi].countP (fun i=>decide (i+1<=hi) && Builtin.Str.subAt x y i)=0:=by
  rw [List.countP_eq_zero]
  intro i h
  rw [mem_singleton.mp h,decide_eq_false (by omega)]
  exact Bool.false_ne_true
 rw [e0,Nat.add_zero]
 refine List.countP_congr fun i h=>?_
 have h:=List.mem_range.mp h
 rw [Bool.and_eq_true,decide_eq_true_eq,decide_eq_true_eq]
 have e:=ZAc x y i
 unfold Zr0 at e
 rw [hy] at e
 have hl:i+y.length<=x.length:=by rw [ly,<-Z8];omega
 rw [decide_eq_true hl,Bool.true_and] at e
 rw [e,decide_eq_true_eq]
 constructor
 ·rintro ⟨_,_,e2⟩
  have:=congrArg (fun l:List Nat=>l[0]?) e2
  simpa using this
 ·intro e2
  refine ⟨by omega,by show i+1<=_;omega,?_⟩
  refine List.ext_getElem (by simp;omega) fun k h1 h2=>?_
  have:k=0:=by simp at h2;omega
  subst this
  rw [List.getElem?_eq_getElem (by omega)] at e2
  simpa using Option.some.inj e2
theorem ZgL (x y:Str) (i j:Int) (t u v v':Tok):Gives (Builtin.«str.count» ⟨[.str x t,.str y u,.int i v,.int j v'],[]⟩) (.int (Builtin.Str.occurrences x y (PySem.fromIndex x.length i) (min (PySem.fromIndex x.length j) x.length) (x.length+1)).length):=by
 show Gives (retInt (Builtin.Str.occurrences x y (PySem.fromIndex x.length i) (min (PySem.fromIndex x.length j) x.length) (x.length+1)).length) _
 exact .of_eq rfl
section
variable {X:Cx}
def Zm3:V->List V->Hp->VK->Prop:=fun x vs H Q=>match x,vs with
 | .str z,[.str y]=>∃c,L y=[c]/\Q (.int ((L z).count c:Nat)) H
 | .str z,[.str y,.int i,.int j]=>∃c,L y=[c]/\i=0/\0<=j/\Q (.int (((L z).take j.toNat).count c:Nat)) H
 |_,_=>False
theorem ZeX:MtR X "str.count" Zm3:=by
 intro Za s σ H x vs v us Q I rx rv h
 unfold Zm3 at h
 split at h
 ·rename_i z y
  obtain ⟨c,hy,q⟩:=h
  obtain ⟨t,rfl⟩:=rx
  obtain ⟨u,rfl,t',rfl⟩:=JA rv
  refine call_gives F.slot_str_count (typeIs_str _ _ _) F.entry_str_count (F.args_str_count_2 _ _) (gives_str_count z y t t') ?_
  have:=Zic z y c (L z).length hy (Nat.le_refl _)
  rw [List.take_length,Z8] at this
  rw [this]
  exact ⟨.int ((L z).count c:Nat),H,I.tok _,⟨_,rfl⟩,q⟩
 ·rename_i z y i j
  obtain ⟨c,hy,hi,hj,q⟩:=h
  subst hi
  obtain ⟨t,rfl⟩:=rx
  obtain ⟨t',t'',t3,rfl⟩:∃t' t'' t3,us=[.str y t',.int 0 t'',.int j t3]:=by
   cases rv with
   |cons r1 rv=>
    cases rv with
    |cons r2 rv=>
     cases rv with
     |cons r3 rv=>
      cases rv
      obtain ⟨t',rfl⟩:=r1
      obtain ⟨t'',rfl⟩:=r2
      obtain ⟨t3,rfl⟩:=r3
      exact ⟨t',t'',t3,rfl⟩
  refine call_gives F.slot_str_count (typeIs_str _ _ _) F.entry_str_count (F.args_str_count_4 _ _ _ _) (ZgL z y 0 j t t' t'' t3) ?_
  have e1:PySem.fromIndex z.length 0=0:=rfl
  have e2:PySem.fromIndex z.length j=j.toNat:=by
   unfold PySem.fromIndex
   rw [if_neg (by omega)]
   omega
  rw [e1,e2]
  have:=Zic z y c (min j.toNat z.length) hy (by rw [Z8];omega)
  rw [this,<-Z8]
  have e3:(L z).take (min j.toNat (L z).length)=(L z).take j.toNat:=by
   by_cases h:j.toNat<=(L z).length
   ·rw [Nat.min_eq_left h]
   ·rw [Nat.min_eq_right (by omega),List.take_length,List.take_of_length_le (by omega)]
  rw [e3]
  exact ⟨.int (((L z).take j.toNat).count c:Nat),H,I.tok _,⟨_,rfl⟩,q⟩
 ·exact h.elim
end
def ZaC:Stmt->List Stmt
 | .ClassDef _ _ _ b _ _ _ _ _ _ _=>b
 |_=>[]
section
variable {P:Program} {w:World} {K:PySem.W.Frag} {mg:Str->Option Value} {base:Heap}
theorem Fun.okLX {x qual:Str} {st:Stmt} {f c:Addr} {fd:FuncData} {N ps:List Str} {k:Nat} {sp:Sp} (F:Fun K x qual st f fd) (hc:fd.code=.ref c) (S:ZA N ps (Zk st)) (len:∀vs H Q E,sp vs H Q E->vs.length=ps.length)
 (hbody:∀(A:Around) (outer:List Env) (s:Shared) (H:Hp) (vs:List V) (Q:VK) (E:XK),YD k (A.deeper (envOfC qual (Zk st) s.heap.objs.size f (.ref c)))->sp vs H Q E->
  ∃t,PSs (Zav (CX1 P w) P w K mg base N qual (Zk st) f (.ref c) A outer s H E) (Zy st) t/\t {nx:=fun _ H'=>Q .non H',rt:=Q} (ZR N vs) H):Z4 P w K mg base (CX1 P w) (k+1) f fd ps sp:=by
 obtain ⟨oc,od,kV,doc,pm,an,cdv,ct,osl,rfl,lk,hcd⟩:=F.ex
 have hc:cdv=.ref c:=hc
 subst hc
 exact Zjq lk hcd S len fun A outer s H vs Q E hr hsp=>hbody A outer s H vs Q E hr hsp
end
section
variable {X:Cx} {K:PySem.W.Frag} {o e value:Expr} {f:Str} {pos pos':Pos} {ta tv:TE}
def Znf (C:Addr) (ta:TE) (f:Str):TE:=fun σ H Q=>ta σ H fun x H1=>match x with
 | .ref a=>∃dx fs v,H1 a=some (.ins C dx fs)/\fs.lookup f=some v/\Q v H1
 |_=>False
theorem ZaH {C:Addr} (hK:X.K=K) (c:Cls K C) (n:Jk K C f) (he:PE X e ta) (hb:attributeBase e f X.env (eval e X.env)=eval e X.env:=by rfl):PE X (.Attribute e f pos) (Znf C ta f):=by
 subst hK
 have he':PE X e (fun σ H Q=>∃Q0:VK,ta σ H Q0/\∀v H',Q0 v H'->Q v H'):=he.imp fun σ H Q h=>h
 intro Za s σ H Q I h
 refine Zv1 (pos:=pos) he' hb Za s σ H Q I ⟨_,h,fun v H' q=>?_⟩
 cases v with
 |ref a=>
  obtain ⟨dx,fs,v,q1,q2,q3⟩:=q
  exact ⟨a,C,dx,fs,v,rfl,q1,c,n,q2,q3⟩
 |_=>exact False.elim q
def Zn6 (C:Addr) (ta tv:TE) (f:Str):TS:=fun D σ H=>tv σ H fun y H1=>ta σ H1 fun x H2=>match x with
 | .ref a=>∃dx fs,H2 a=some (.ins C dx fs)/\fs.length<1000/\D.nx σ (upd H2 a (.ins C dx (Y6 f y fs)))
 |_=>False
theorem Zb3 {C:Addr} (hK:X.K=K) (c:Cls K C) (n:Jk K C f) (ha:PE X o ta) (hv:PE X value tv) (hs:swapsWith value (some (.Attribute o f pos')) pos.line X.env=pure false):PS X (.Assign [.Attribute o f pos'] value pos) (Zn6 C ta tv f):=by
 subst hK
 have ha':PE X o (fun σ H Q=>∃Q0:VK,ta σ H Q0/\∀v H',Q0 v H'->Q v H'):=ha.imp fun σ H Q h=>h
 have hv':PE X value (fun σ H Q=>∃Q0:VK,tv σ H Q0/\∀v H',Q0 v H'->Q v H'):=hv.imp fun σ H Q h=>h
 intro Za s σ H D I h
 refine Zsn (pos':=pos') (pos:=pos) ha' hv' hs Za s σ H D I ⟨_,h,fun y H1 q1=>⟨_,q1,fun x H2 q=>?_⟩⟩
 cases x with
 |ref a=>
  obtain ⟨dx,fs,q1,q2,q3⟩:=q
  exact ⟨a,C,dx,fs,rfl,q1,c,n,q2,q3⟩
 |_=>exact False.elim q
end
section
variable {X:Cx} {x:Str} {pos:Pos}
theorem Zn9 {z:Str} (hg:Gl X x) (hm:∃t,X.mg x=some (.str z t)) (hd:(x==("__debug__":Str))=false:=by decide):PE X (.Name x pos) (tC (.str z)):=by
 obtain ⟨t,hm⟩:=hm
 exact Jt hg hm ⟨t,rfl⟩ hd
theorem ZhM {z:Int} (hg:Gl X x) (hm:∃t,X.mg x=some (.int z t)) (hd:(x==("__debug__":Str))=false:=by decide):PE X (.Name x pos) (tC (.int z)):=by
 obtain ⟨t,hm⟩:=hm
 exact Jt hg hm ⟨t,rfl⟩ hd
end
def zV (cs:List Nat) (h:Nat):List Nat:=cs.take h++10::cs.drop h
theorem Zg8 {cs:List Nat} {h:Nat} (hh:h<=cs.length):(zV cs h).length=cs.length+1:=by
 unfold zV
 rw [length_append,length_cons,length_take,length_drop]
 omega
def fsL (cs:List Nat) (h:Nat) (tot fo:Addr):List (Str×V):=[("column",.str (T (zV cs h))),("home",.int h),("last",.int cs.length),("totals",.ref tot),("forths",.ref fo)]
def Tot (H:Hp) (tot:Addr) (cs:List Nat):Prop:=∃(ts:List Addr) (ds:List Nat),H tot=some (.lst (ts.map V.ref))/\ts.length=ds.length/\(∀(j d:Nat),ds[j]?=some d->∃t,ts[j]?=some t/\H t=some (.tup [.str (T [d]),.int (cs.count d:Nat)]))/\ds.Nodup/\(∀c,c∈ds↔c∈cs)
def Fo (H:Hp) (fo:Addr) (cs:List Nat) (h:Nat):Prop:=∃p:List Nat,H fo=some (.lst (p.map fun i:Nat=>V.int i))/\p.Perm (List.range (cs.length+1))/\p.Pairwise (fun i j=>[(zV cs h).getD i 0]<=[(zV cs h).getD j 0]/\([(zV cs h).getD i 0]=[(zV cs h).getD j 0]->i<j))
def ZbE (C:Addr) (H:Hp) (a:Addr) (cs:List Nat) (h:Nat):Prop:=∃dx tot fo,H a=some (.ins C dx (fsL cs h tot fo))/\(Tot H tot cs/\Fo H fo cs h)/\h<=cs.length
theorem Tot.same {H H':Hp} {tot:Addr} {cs:List Nat} (x:Tot H tot cs) (sm:∀b o,H b=some o->(∀ps,o≠ .tbl ps)->H' b=some o):Tot H' tot cs:=by
 obtain ⟨ts,ds,h1,h2,h3,h4⟩:=x
 refine ⟨ts,ds,sm _ _ h1 (by nofun),h2,fun j d e=>?_,h4⟩
 obtain ⟨t,e1,e2⟩:=h3 j d e
 exact ⟨t,e1,sm _ _ e2 (by nofun)⟩
theorem ZbE.same {C:Addr} {H H':Hp} {a:Addr} {cs:List Nat} {h:Nat} (x:ZbE C H a cs h) (sm:∀b o,H b=some o->(∀ps,o≠ .tbl ps)->H' b=some o):ZbE C H' a cs h:=by
 obtain ⟨dx,tot,fo,h1,h2,h3⟩:=x
 obtain ⟨p,p1,p2⟩:=h2.2
 exact ⟨dx,tot,fo,sm _ _ h1 (by nofun),⟨h2.1.same sm,p,sm _ _ p1 (by nofun),p2⟩,h3⟩
theorem ZhP (c:Nat):∀(cs ds:List Nat),ds.Nodup->(∀x∈cs,x∈ds)->((ds.filter fun d=>decide (d<c)).map fun d=>(cs.count d:Int)).sum=(cs.countP fun x=>decide (x<c):Nat)
 |[],ds,_,_=>by
  have:(ds.filter fun d=>decide (d<c)).map (fun d=>(([]:List Nat).count d:Int))=(ds.filter fun d=>decide (d<c)).map fun _=>0:=map_congr_left fun _ _=>rfl
  rw [this]
  induction (ds.filter fun d=>decide (d<c)) with
  |nil=>rfl
  |cons a r ih=>simpa using ih
 |x::cs,ds,nd,sub=>by
  have ih:=ZhP c cs ds nd fun y hy=>sub y (mem_cons_of_mem _ hy)
  have hx:=sub x (mem_cons_self ..)
  have one:∀(es:List Nat),es.Nodup->(es.map fun d=>((x::cs).count d:Int)).sum=(es.map fun d=>(cs.count d:Int)).sum+if x∈es then 1 else 0:=by
   intro es
   induction es with
   |nil=>intro _;rfl
   |cons a r ihe=>
    intro nde
    obtain ⟨n1,n2⟩:=List.nodup_cons.mp nde
    have:=ihe n2
    rw [map_cons,map_cons,List.sum_cons,List.sum_cons,this,List.count_cons]
    by_cases e:x=a
    ·subst e
     simp [n1]
     omega
    ·have:(x==a)=false:=by simpa using e
     simp [this,e]
     omega
  rw [one _ (nd.sublist List.filter_sublist),ih,List.countP_cons]
  by_cases hl:x<c
  ·rw [if_pos (List.mem_filter.mpr ⟨hx,by simpa using hl⟩),if_pos (by simpa using hl)]
   rfl
  ·rw [if_neg fun z=>hl (by simpa using (List.mem_filter.mp z).2),if_neg (by simpa using hl)]
   simp
theorem ZnM (cs:List Nat) (h:Nat) (tot fo:Addr):Y6 "forths" (.ref fo) (Y6 "totals" (.ref tot) (Y6 "last" (.int cs.length) (Y6 "home" (.int h) (Y6 "column" (.str (T (zV cs h))) []))))=fsL cs h tot fo:=by
 unfold fsL
 rfl
theorem Zm2 {α:Type} (l:List α) (m:Nat):cut l none (some (m:Int))=l.take m:=by
 unfold cut
 show (l.drop 0).take ((if (m:Int)<0 then ((m:Int)+(l.length:Int)).toNat else min (m:Int).toNat l.length)-0)=l.take m
 rw [if_neg (by omega),Int.toNat_natCast,List.drop_zero,Nat.sub_zero]
 by_cases h:m<=l.length
 ·rw [Nat.min_eq_left h]
 ·rw [Nat.min_eq_right (by omega),List.take_of_length_le (Nat.le_refl _),List.take_of_length_le (by omega)]
theorem Zo8 (cs:List Nat) (m:Nat):cut cs none (some (m:Int))++L (Str.ofString "\n")++cut cs (some (m:Int)) none=zV cs m:=by
 have e:L (Str.ofString "\n")=[10]:=by decide +kernel
 rw [Zm2,LP.ZbX,e]
 unfold zV
 simp
def Prs (H:Hp) (ts:List Addr) (ds cs:List Nat):Prop:=ts.length=ds.length/\∀(j d:Nat),ds[j]?=some d->∃t,ts[j]?=some t/\H t=some (.tup [.str (T [d]),.int (cs.count d:Nat)])
theorem Prs.same {H H':Hp} {ts:List Addr} {ds cs:List Nat} (x:Prs H ts ds cs) (sm:LP.ZdK H H'):Prs H' ts ds cs:=⟨x.1,fun j d e=>by
 obtain ⟨t,e1,e2⟩:=x.2 j d e
 exact ⟨t,e1,sm _ _ e2⟩⟩
theorem Prs.snoc {H:Hp} {ts:List Addr} {ds cs:List Nat} {t:Addr} {d:Nat} (x:Prs H ts ds cs) (ht:H t=some (.tup [.str (T [d]),.int (cs.count d:Nat)])):Prs H (ts++[t]) (ds++[d]) cs:=by
 refine ⟨by simp [x.1],fun j e hj=>?_⟩
 by_cases h:j<ds.length
 ·rw [List.getElem?_append_left h] at hj
  obtain ⟨u,e1,e2⟩:=x.2 j e hj
  exact ⟨u,by rw [List.getElem?_append_left (by rw [x.1];exact h)];exact e1,e2⟩
 ·have hl:=(List.getElem?_eq_some_iff.mp hj).1
  rw [length_append,length_singleton] at hl
  have ej:j=ds.length:=by omega
  subst ej
  rw [List.getElem?_append_right (Nat.le_refl _),Nat.sub_self] at hj
  have hj:d=e:=by simpa using hj
  subst hj
  exact ⟨t,by rw [<-x.1,List.getElem?_append_right (Nat.le_refl _),Nat.sub_self];rfl,ht⟩
theorem Zit {P:Addr} {pos:Pos} {q:Str} {H:Hp} {a C dx:Addr} {fs:List (Str×V)} {o:HO} (h:Bk P pos q H) (hl:H a=some (.ins C dx fs)):Bk P pos q (upd H a o):=by
 rcases h with h|⟨c',h1,h2⟩
 ·have:P≠a:=by rintro rfl;rw [h] at hl;cases hl
  exact .inl ((Zn this).trans h)
 ·have n1:P≠a:=by rintro rfl;rw [h1] at hl;cases hl
  have n2:c'≠a:=by rintro rfl;rw [h2] at hl;cases hl
  exact .inr ⟨c',(Zn n1).trans h1,(Zn n2).trans h2⟩
theorem Zm4 (n:Nat):Za8 0 (n:Int)=(List.range n).map fun j:Nat=>V.int j:=by
 unfold Za8
 rw [show ((n:Int)-0).toNat=n by omega]
 refine map_congr_left fun j _=>?_
 rw [Int.zero_add]
theorem Zgu {cs:List Nat} {h i:Nat} (hh:h<=cs.length):(zV cs h)[i]?=if i<h then cs[i]? else if i=h then some 10 else cs[i-1]?:=by
 unfold zV
 by_cases h1:i<h
 ·rw [if_pos h1,List.getElem?_append_left (by rw [length_take];omega),List.getElem?_take,if_pos h1]
 ·rw [if_neg h1,List.getElem?_append_right (by rw [length_take];omega),length_take,Nat.min_eq_left hh]
  by_cases h2:i=h
  ·subst h2
   simp
  ·rw [if_neg h2,show i-h=(i-h-1)+1 by omega,List.getElem?_cons_succ,List.getElem?_drop]
   congr 1
   omega
theorem ZjF {cs:List Nat} {h i:Nat} (hh:h<=cs.length) (h10:∀c∈cs,c≠10) (hi:i<cs.length+1) (hn:i≠h):(zV cs h).getD i 0≠10:=by
 rw [List.getD_eq_getElem?_getD,Zgu hh]
 by_cases h1:i<h
 ·rw [if_pos h1,List.getElem?_eq_getElem (by omega)]
  exact h10 _ (List.getElem_mem _)
 ·rw [if_neg h1,if_neg hn,List.getElem?_eq_getElem (by omega)]
  exact h10 _ (List.getElem_mem _)
open Builtin Builtin.Str
theorem Zpv:typeLookup (.type "list_reverseiterator") "__len__"=pure none:=by rw [typeLookup_type,builtinLookup_eq_fast];kernel_rfl
theorem Zqx:typeLookup (.type "list_reverseiterator") "__length_hint__"=pure (some (.builtin "list_reverseiterator.__length_hint__")):=by rw [typeLookup_type,builtinLookup_eq_fast];kernel_rfl
section
variable {prog:Program} {w:World} {A:Around} {E:Value->Shared->Prop} {s:Shared} {I l:Addr}
theorem ZhS {Q:List Value->Shared->Prop} {items:Array Value} (hh:A.handled=none) (hne:l≠I) (hit:s.heap.IsRevIter I l ((items.size:Int)-1)) (hl:s.heap.IsList l items) (hz:items.size<=sizeLine)
 (hQ:∀s',Moved [I] (fun a b=>b=a) s s'->Q items.toList.reverse s'):wpAny (model prog w) A (collect (.ref I)) Q E s:=by
 have W:=(Walks.listRev (prog:=prog) (w:=w) (A:=A.in1) hh I l hne items).toS
 have hst:(0<=items.size/\s.heap.IsRevIter I l ((items.size:Int)-1-((0:Nat):Int))/\s.heap.IsList l items):=⟨Nat.zero_le _,by rw [show (items.size:Int)-1-((0:Nat):Int)=(items.size:Int)-1 by omega];exact hit,hl⟩
 have hSI:s.heap.objs.size≠I:=by
  obtain ⟨o,ho,_⟩:=id hit
  exact fun e=>Nat.lt_irrefl _ (e▸Heap.lt_size ho)
 have hSl:s.heap.objs.size≠l:=by
  obtain ⟨o,ho,_⟩:=id hl
  exact fun e=>Nat.lt_irrefl _ (e▸Heap.lt_size ho)
 have hSf:s.heap.objs.size∉[I,l]:=by simp [hSI,hSl]
 unfold collect
 refine wpAny_bind (wpAny_runValue (codeAny_builtin F.entry_proto_collect ?_))
 rw [Around.under_plainId F.plain_proto_collect _]
 show wpAny _ A.in1 (newList [] >>=fun q=>again (.builtin "list.__iadd__" ⟨[q,.ref I],[]⟩)) _ _ s
 refine wpAny_bind (wpAny_newObj_type ?_)
 refine wpAny_pure ⟨plainId_quiet F.plain_list_iadd _,codeAny_builtin F.entry_list_iadd ?_⟩
 rw [Around.under_plainId F.plain_list_iadd _]
 have hst₁:=W.frame 0 s (s.heap.push {cls:=.type "list",data:=.seq ([]:List Value).toArray}) s.toks hst (Nat.le_refl _) fun b _ o e=>Heap.get?_push_of_some _ e
 have hT:({s with heap:=s.heap.push {cls:=.type "list",data:=.seq ([]:List Value).toArray} }:Shared).TypeIs (.ref I) "list_reverseiterator":=hst₁.2.1.typeIs
 have hS₁:(s.heap.push {cls:=.type "list",data:=.seq ([]:List Value).toArray}).get? s.heap.objs.size=some {cls:=.type "list",data:=.seq ([]:List Value).toArray}:=Heap.get?_push_size _ rfl
 have h1:Builtin.List.listSameRef (.ref s.heap.objs.size) (.ref I)=false:=by simp [Builtin.List.listSameRef,hSI]
 show wpAny _ A.in1 (Builtin.List.listExtendWith (.ref s.heap.objs.size) (.ref I) (.ref s.heap.objs.size)) _ _ _
 unfold Builtin.List.listExtendWith
 refine wpAny_bind (wpAny_typeOf hT ?_)
 rw [if_neg (by rw [h1];decide)]
 refine wpAny_bind (W.self 0 _ _ _ hst₁ ?_)
 refine wpAny_bind (wpAny_holding ?_)
 unfold Builtin.List.listLengthHint
 refine wpAny_bind (wpAny_specialOf hT Zpv ?_)
 show wpAny _ A.in1 (specialOf (Value.ref I) (Str.ofString "__length_hint__") >>=_) _ _ _
 refine wpAny_bind (wpAny_specialOf hT Zqx ?_)
 (generalize hid:("list_reverseiterator.__length_hint__":String)=id0;(fail_if_success (clear hid id0));wp_delta;rw [show splitId id0=some ("list_reverseiterator","__length_hint__") from by subst hid;decide +kernel];subst hid)
 refine wpAny_bind (wpAny_isInstance (b:=true) hT (by rw [isSubtype_type];kernel_rfl) ?_)
 refine wpAny_pure ?_
 rw [if_neg (by decide)]
 refine wpAny_pure ⟨plainId_quiet F.plain_extend_loop _,codeAny_extend_loopS W hz _ hSf _ items.size 0 _ _ _ rfl (Nat.zero_le _) hst₁ hS₁ (ItemsOf.nil _) fun s' acc' c' hm hS' hacc=>?_⟩
 show wpAny _ A (load s.heap.objs.size >>=_) _ _ s'
 refine wpAny_bind (wpAny_load hS' ?_)
 have e:acc'.toList=items.toList.reverse:=by
  refine List.ext_getElem? fun i=>?_
  by_cases hi:i<items.size
  ·have ha:i<acc'.size:=by rw [hacc.1];exact hi
   have:=hacc.2 i _ (Array.getElem?_eq_getElem ha)
   rw [Array.getElem?_toList,Array.getElem?_eq_getElem ha,List.getElem?_reverse (by simpa using hi),<-this]
   simp
  ·rw [List.getElem?_eq_none (by rw [Array.length_toList,hacc.1];omega),List.getElem?_eq_none (by rw [length_reverse,Array.length_toList];omega)]
 refine wpAny_pure ?_
 rw [e]
 exact (hQ s' (Moved.drop_new (o:= {cls:=.type "list",data:=.seq ([]:List Value).toArray}) (tk:=s.toks) hm (Nat.le_refl _)))
theorem Zou {Q:Value->Shared->Prop} {x:Str} {t:Tok} {items:Array Value} {ys:List Str} (hh:A.handled=none) (hne:l≠I) (hit:s.heap.IsRevIter I l ((items.size:Int)-1)) (hl:s.heap.IsList l items) (hz:items.size<=sizeLine)
 (hi:StrsAre items.toList.reverse ys) (hok:(ys.map (·.length)).sum+ys.length * x.length<=16777216)
 (h:∀s' t' k,Moved [I] (fun a b=>b=a) s s'->Q (.str (Txt.join x ys) t') {s' with toks:=k}):wpAny (model prog w) A (call (.builtin "str.join") [.str x t,.ref I]) Q E s:=by
 refine wpAny_call (codeAny_call_builtin F.slot_str_join.plain F.entry_str_join (F.slot_str_join.check _ _ _ _ _ _ _ _ (typeIs_str _ _ _) (F.args_str_join_2 _ _) ?_))
 rw [join_tree_other]
 refine wpAny_bind (wpAny_typeOf hit.typeIs ?_)
 show wpAny _ A.in1 ((pyIter (.ref I)).tryCatch _ >>=fun it=>collect it >>=fun items=>joinTail x items) _ _ s
 refine wpAny_bind (wpAny_tryCatch (wpAny_pyIter_revIter hit ?_))
 refine wpAny_bind (ZhS (A:=A.in1) hh hne hit hl hz fun s' hm=>?_)
 obtain ⟨q,hv,ht⟩:=strsAre_values hi
 rw [hv]
 have hok2:=joinOk_of hok
 rw [<-ht] at hok2
 unfold JoinOk at hok2
 rw [Bool.not_eq_true'] at hok2
 have g:Gives (joinTail x (strValues q)) (joinMade x q):=by
  have g0:=gives_joinTail x q hok2
  cases q with
  |nil=>exact g0
  |cons p r=>cases r with
   |nil=>exact g0
   |cons q r'=>exact g0
 refine g prog w A (wants Q E) s' (post_join q ⟨joinFit_length hok2,fun t' k=>?_⟩)
 rw [ht]
 exact h s' t' k hm
end
section
variable {X:Cx} {K:PySem.W.Frag}
def ZjL (K:PySem.W.Frag) (a:Str) (Q:VK):VK:=fun v H2=>match v with
 | .ref p=>∃zs:List (List Nat),SqL K H2 p (zs.map fun l=>V.str (T l))/\(zs.map List.length).sum+zs.length * (L a).length<=sizeLine/\Q (.str (T (Zcn (L a) zs.reverse))) H2
 |_=>False
def ZrO (K:PySem.W.Frag) (to tl:TE):TE:=fun σ H Q=>to σ H fun v H1=>match v with
 | .str a=>tl σ H1 (ZjL K a Q)
 |_=>False
theorem ZiW {o l:Expr} {to tl:TE} {apos cpos p p':Pos} (hK:X.K=K) (hc:X.calm=true) (hmr:X.mg "reversed"=none) (ho:PE X o to) (hl:PE X l tl)
 (hgl:Gl X "reversed":=by rfl) (hse:starEach [l] X.env=[(false,eval l X.env)]:=by rfl)
 (hbase:attributeBase o "join" X.env (eval o X.env)=eval o X.env:=by rfl)
 (hfew:((backTo cpos (starEach [.Call (.Name "reversed" p) [l] [] p'] X.env)).all (fun x=> !x.1) && (backToKw cpos (keywordEach [] X.env)).all (fun x=>x.1.isSome)
  && decide ([Expr.Call (.Name "reversed" p) [l] [] p'].length+([]:List Keyword).length+(if ([]:List Keyword).isEmpty then 0 else 1)<30))=true:=by rfl)
 (hline:(apos.endLine==cpos.line)=true:=by rfl) (hs:starEach [.Call (.Name "reversed" p) [l] [] p'] X.env=[(false,eval (.Call (.Name "reversed" p) [l] [] p') X.env)]:=by rfl):
 PE X (.Call (.Attribute o "join" apos) [.Call (.Name "reversed" p) [l] [] p'] [] cpos) (ZrO K to tl):=by
 subst hK
 intro Za s σ H Q I h
 refine wpAny_Call_method_late hbase hfew hline rfl (thn (ho Za s σ H _ I h) fun v s1 ⟨x,H1,I1,r1,q1⟩=>?_)
 cases x with
 |str a=>
  obtain ⟨h1,h2⟩:=Ziw (T:="str") I1 r1 rfl
  refine ⟨"str","str.join",PySem.F.plainAttrs_str,PySem.F.slot_str_join,PySem.F.type_str_join,h1,h2,?_⟩
  obtain ⟨t,rfl⟩:=r1
  rw [hs]
  refine Calls.callWith_builtin rfl (Calls.evalArgs_plain ?_)
  show wpAny _ _ (spliced ((false,_)::[])) _ _ s1
  refine Calls.spliced_cons ?_
  have q1:Zx tl ZL σ H1 (fun vs H2=>match vs with|[v]=>ZjL X.K a Q v H2|_=>False):=q1
  refine Call_ (Zbo I1 hgl hmr Zhe (PyProof.Rows.callWith_type1 (thn (Zb hl Zf hse p' Za s1 σ H1 _ I1 q1) fun us s2 ⟨vs,H2,I2,r2,q2⟩=>?_) hse rfl))
  dsimp only at q2
  split at q2
  ·rename_i vv
   unfold ZjL at q2
   split at q2
   ·rename_i b
    obtain ⟨zs,hq,hz,q⟩:=q2
    obtain ⟨u,rfl,ru⟩:=JA r2
    cases ru
    obtain ⟨its,rv,pl,hzz⟩:=I2.list hq
    have hln:=rv.length
    refine call_reversed_list pl.isList ?_
    refine Calls.spliced_nil ?_
    have hit:(s2.heap.push (revObj b ((its.toArray.size:Int)-1))).IsRevIter s2.heap.objs.size b ((its.toArray.size:Int)-1):=⟨_,Heap.get?_push_size _ rfl,rfl,rfl⟩
    have I3:Inv X Za σ H2 {s2 with heap:=s2.heap.push (revObj b ((its.toArray.size:Int)-1))}:=I2.kept (t':=s2.toks) fun b o e=>Heap.get?_push_of_some _ e
    have hne:b≠s2.heap.objs.size:=fun e=>by
     obtain ⟨o,ho,_⟩:=pl.isList
     exact Nat.lt_irrefl _ (e▸Heap.lt_size ho)
    have hl2:(s2.heap.push (revObj b ((its.toArray.size:Int)-1))).IsList b its.toArray:=pl.isList.at fun o e=>Heap.get?_push_of_some _ e
    obtain ⟨f0,f1,f2,f3,f4,f5⟩:=I2.fpOk (Nat.le_refl _) (I2.hok.fresh (Nat.le_refl _))
    have hsz:sizeLine=16777216:=sizeLine_eq
    refine Zou (s:= {s2 with heap:=s2.heap.push (revObj b ((its.toArray.size:Int)-1))}) (ys:=(zs.map T).reverse) (I2.ok.hd hc) hne hit hl2 (by rw [size_toArray];omega) ?_ ?_ fun s' t' k hm=>?_
    ·have e:(zs.map fun l=>V.str (T l))=(zs.map T).map V.str:=by simp
     rw [e] at rv
     have:=rv.reverse
     rw [<-map_reverse] at this
     simpa using ZjH this
    ·rw [<-Z8 a,map_reverse,List.sum_reverse,length_reverse,map_map,length_map,show ((fun x:Str=>x.length)∘T)=List.length from funext fun l=>Zjk l,<-hsz]
     exact hz
    ·refine ⟨.str (T (Zcn (L a) zs.reverse)),H2,?_,⟨t',?_⟩,q⟩
     ·obtain ⟨h',g',d',tk',os'⟩:=s'
      have e1:=hm.gens
      have e2:=hm.drawn
      have e3:=hm.os
      dsimp only at e1 e2 e3
      subst e1 e2 e3
      exact I3.turned (t':=k) (fun b o hb e=>hm.heap b o (by simpa using hb) e) f0 f1 f3 f4 f5
     ·show Value.str (Txt.join a (zs.map T).reverse) t'=_
      have e2:Txt.join a (zs.map T).reverse=Str.join a (zs.map T).reverse:=StrLaws.glued_eq_join _ _
      rw [e2,Zi5,<-map_reverse,map_map]
      congr 3
      simp [L_T,Function.comp_def]
   ·exact q2.elim
  ·exact q2.elim
 |_=>exact q1.elim
end
end L2
namespace LO
open L2
def rsL (cs:List Nat) (h:Nat):Rs:=(cs.take h).map some++none::(cs.drop h).map some
theorem Zor {cs:List Nat} {h:Nat} (hh:h<=cs.length):(rsL cs h)[h]?=some none:=by
 unfold rsL
 rw [List.getElem?_append_right (by rw [length_map,length_take];omega),length_map,length_take,Nat.min_eq_left hh,Nat.sub_self]
 rfl
theorem Zos {cs:List Nat} {h i:Nat} (hh:h<=cs.length) (hi:i<cs.length+1) (hn:i≠h):(rsL cs h)[i]?=some (some ((zV cs h).getD i 0)):=by
 rw [List.getD_eq_getElem?_getD,Zgu hh]
 unfold rsL
 by_cases h1:i<h
 ·rw [if_pos h1,List.getElem?_append_left (by rw [length_map,length_take];omega),List.getElem?_map,List.getElem?_take_of_lt h1,List.getElem?_eq_getElem (by omega)]
  rfl
 ·rw [if_neg h1,if_neg hn,List.getElem?_append_right (by rw [length_map,length_take];omega),length_map,length_take,Nat.min_eq_left hh]
  obtain ⟨k,rfl⟩:∃k,i=h+k+1:=⟨i-h-1,by omega⟩
  rw [show h+k+1-h=k+1 by omega,List.getElem?_cons_succ,List.getElem?_map,List.getElem?_drop,show h+k+1-1=h+k by omega,List.getElem?_eq_getElem (by omega)]
  rfl
theorem ZnQ (cs:List Nat) (h:Nat):Zis (rsL cs h)=cs:=by
 unfold Zis rsL
 have e:∀l:List Nat,(l.map some).filterMap id=l:=fun l=>by
  induction l with
  |nil=>rfl
  |cons x r ih=>simpa using ih
 rw [List.filterMap_append,e,List.filterMap_cons]
 show _++List.filterMap id ((cs.drop h).map some)=cs
 rw [e,List.take_append_drop]
theorem ZoJ (cs:List Nat) (h d:Nat):ZgO (rsL cs h) d=cs.countP fun x=>decide (x<d):=by
 unfold ZgO rsL
 rw [List.countP_append,List.countP_cons,List.countP_map,List.countP_map]
 have e:(ZjQ d∘some)=fun x=>decide (x<d):=rfl
 rw [e]
 show _+(_+if (false:Bool)=true then 1 else 0)=_
 rw [if_neg (by decide),Nat.add_zero,<-List.countP_append,List.take_append_drop]
theorem ZiC {cs:List Nat} {h d:Nat} (r:Nat) (hd:d≠10):Y9 (rsL cs h) d r=((zV cs h).take r).count d:=by
 unfold Y9 rsL zV List.count
 have key:∀(a b:List Nat) (r:Nat),((a.map some++none::b.map some).take r).countP (fun o=>o==some d)=((a++10::b).take r).countP (fun x=>x==d):=by
  intro a b
  have kb:∀(b:List Nat) (r:Nat),((b.map some).take r).countP (fun o=>o==some d)=(b.take r).countP (fun x=>x==d):=by
   intro b r
   rw [<-map_take,List.countP_map]
   rfl
  induction a with
  |nil=>
   intro r
   cases r with
   |zero=>rfl
   |succ r=>
    rw [map_nil,nil_append,nil_append,List.take_succ_cons,List.take_succ_cons,List.countP_cons,List.countP_cons,kb]
    have:((10:Nat)==d)=false:=by simpa using Ne.symm hd
    rw [this]
    rfl
  |cons x t ih=>
   intro r
   cases r with
   |zero=>rfl
   |succ r=>
    rw [map_cons,cons_append,cons_append,List.take_succ_cons,List.take_succ_cons,List.countP_cons,List.countP_cons,ih]
    rfl
 exact key _ _ _
theorem ZjR {cs:List Nat} {h:Nat} (hh:h<=cs.length):bk (rsL cs h) h=none:=by
 unfold bk
 rw [Zor hh]
theorem Zgk {cs:List Nat} {h i:Nat} (hh:h<=cs.length) (h10:∀c∈cs,c≠10) (hi:i<cs.length+1) (hn:i≠h):bk (rsL cs h) i=some (1+cs.countP (fun x=>decide (x<(zV cs h).getD i 0))+((zV cs h).take i).count ((zV cs h).getD i 0)):=by
 rw [Zgo (Zos hh hi hn),ZoJ,ZiC i (ZjF hh h10 hi hn)]
theorem ZfV {cs:List Nat} {h i r:Nat} (e:rd (rsL cs h) i=some r):r<=cs.length:=by
 have:=Zr8 e
 rwa [ZnQ] at this
theorem Zee {cs:List Nat} {h i r:Nat} (hh:h<=cs.length) (h10:∀c∈cs,c≠10) (e:rd (rsL cs h) i=some r) (hn:r≠h):∃b,bk (rsL cs h) r=some b/\rd (rsL cs h) (i+1)=some b:=by
 have hr:=ZfV e
 refine ⟨_,Zgk hh h10 (by omega) hn,?_⟩
 show (rd (rsL cs h) i).bind _=_
 rw [e]
 exact Zgk hh h10 (by omega) hn
theorem ZcQ {cs:List Nat} {h i r:Nat} (e:rd (rsL cs h) i=some r):i<=cs.length:=by
 have nd:((List.range (i+1)).map fun j=>(rd (rsL cs h) j).getD 0).Nodup:=by
  refine List.pairwise_map.mpr (List.nodup_range.imp_of_mem fun {a b} ha hb hab z=>?_)
  obtain ⟨p,ep⟩:=Zca e (show a<=i by have:=List.mem_range.mp ha;omega)
  obtain ⟨q,eq⟩:=Zca e (show b<=i by have:=List.mem_range.mp hb;omega)
  rw [ep,eq] at z
  cases (show p=q from z)
  exact hab (Zcx ep eq)
 have:=Zc6 (ps:=List.range (cs.length+1)) nd fun x hx=>by
  obtain ⟨j,hj,rfl⟩:=List.mem_map.mp hx
  obtain ⟨p,ep⟩:=Zca e (show j<=i by have:=List.mem_range.mp hj;omega)
  rw [ep]
  have:=ZfV ep
  exact List.mem_range.mpr (by show p<_;omega)
 rw [length_map,length_range,length_range] at this
 omega
theorem Zf1 {cs:List Nat} {h:Nat} (hh:h<=cs.length) (h10:∀c∈cs,c≠10):∃m,m<=cs.length/\rd (rsL cs h) m=some h:=by
 have key:∀k i r,rd (rsL cs h) i=some r->cs.length-i<=k->∃m,m<=cs.length/\rd (rsL cs h) m=some h:=by
  intro k
  induction k with
  |zero=>
   intro i r e hk
   have:=ZcQ e
   by_cases z:r=h
   ·exact ⟨i,this,z▸e⟩
   ·obtain ⟨b,_,e2⟩:=Zee hh h10 e z
    have:=ZcQ e2
    omega
  |succ k ih=>
   intro i r e hk
   have:=ZcQ e
   by_cases z:r=h
   ·exact ⟨i,this,z▸e⟩
   ·obtain ⟨b,_,e2⟩:=Zee hh h10 e z
    exact ih (i+1) b e2 (by omega)
 exact key cs.length 0 0 rfl (by omega)
theorem ZfZ {cs:List Nat} {h m:Nat} (hh:h<=cs.length) (em:rd (rsL cs h) m=some h):∀k,k<=m->(((List.range k).map fun j=>[(zV cs h).getD ((rd (rsL cs h) j).getD 0) 0]).reverse).flatten=Zde (rsL cs h) k:=by
 intro k
 induction k with
 |zero=>intro _;rfl
 |succ k ih=>
  intro hk
  obtain ⟨r,er⟩:=Zca em (show k<=m by omega)
  have n0:r≠h:=fun z=>by
   subst z
   have:=Zcx er em
   omega
  have hr:=ZfV er
  rw [ZfY er (Zos hh (by omega) n0),List.range_succ,map_append,List.reverse_append,List.flatten_append,ih (by omega),map_singleton,er]
  rfl
theorem Zhb (n:Nat) (f:Nat->List Nat) (hf:∀j,(f j).length=1):(((List.range n).map f).map List.length).sum=n:=by
 induction n with
 |zero=>rfl
 |succ n ih=>rw [List.range_succ,map_append,map_append,List.sum_append,ih,map_singleton,map_singleton,hf];rfl
theorem Zef (l:List Nat):Zdg l<=l.length:=by
 have:=ZqR l
 omega
theorem ZmU (l:List Nat):Ziu l=rsL (Z5 l) (Zdg l):=by
 have key:∀(xs:List (Option Nat)) (h:Nat),xs[h]?=some none->(∀i,xs[i]?=some none->i=h)->xs=rsL (xs.filterMap id) h:=by
  intro xs
  induction xs with
  |nil=>intro h e;simp at e
  |cons x t ih=>
   intro h e u
   cases h with
   |zero=>
    have:x=none:=by simpa using e
    subst this
    have al:∀t:List (Option Nat),(∀i:Nat,t[i]?≠some none)->(t.filterMap id).map some=t:=by
     intro t
     induction t with
     |nil=>intro _;rfl
     |cons y t ih=>
      intro hn
      cases y with
      |none=>exact absurd rfl (hn 0)
      |some y=>
       rw [List.filterMap_cons]
       show some y::(t.filterMap id).map some=_
       rw [ih fun i=>hn (i+1)]
    unfold rsL
    rw [List.filterMap_cons]
    show none::t=[]++none::((t.filterMap id)).map some
    rw [al t fun i z=>absurd (u (i+1) z) (by omega)]
    rfl
   |succ h=>
    cases x with
    |none=>exact absurd (u 0 rfl) (by omega)
    |some y=>
     have:=ih h (by simpa using e) fun i z=>by have:=u (i+1) (by simpa using z);omega
     rw [List.filterMap_cons]
     show some y::t=rsL (y::t.filterMap id) (h+1)
     unfold rsL
     rw [List.take_succ_cons,List.drop_succ_cons,map_cons,cons_append]
     congr 1
 have e1:Z5 l=(Ziu l).filterMap id:=by
  unfold Z5 Ziu
  rw [List.filterMap_map]
  rfl
 rw [e1]
 refine key _ _ ?_ fun i z=>?_
 ·rw [Zjt (Zqo l)]
  rfl
 ·have hi:i<(ord l).length:=by
   have:=(List.getElem?_eq_some_iff.mp z).1
   rwa [ZdW,<-JI] at this
  have e2:=List.getElem?_eq_getElem hi
  rw [Zjt e2] at z
  have z:Zcq l (ord l)[i]=none:=by simpa using z
  have hm:=Zaf.mp (List.getElem_mem hi)
  unfold Zcq at z
  by_cases e0:(ord l)[i]=0
  ·rw [e0] at e2
   exact (Zgf e2).symm
  ·rw [if_neg e0,List.getElem?_eq_getElem (by omega)] at z
   cases z
theorem Zb0 (l:List Nat):(Z5 l).length=l.length:=by
 have h1:=ZdW l
 rw [ZmU] at h1
 unfold rsL at h1
 rw [length_append,length_cons,length_map,length_map,length_take,length_drop] at h1
 have:=Zef l
 omega
theorem Zg7 {l:List Nat} {c:Nat} (h:c∈Z5 l):c∈l:=by
 obtain ⟨i,_,e⟩:=List.mem_filterMap.mp h
 unfold Zcq at e
 split at e
 ·cases e
 ·exact List.mem_of_getElem? e
end LO
namespace L2
open PySem
def ZqQ:Option Nat->V
 |some b=>.int b
 |none=>.non
theorem ZbP {H:Hp} {a b:Addr} {o:HO} (h:H b≠none):upd H a o b≠none:=by
 unfold upd
 split
 ·simp
 ·exact h
theorem Zw.nn {H H':Hp} (s:Zw H H') {b:Addr} (h:H b≠none):H' b≠none:=by
 cases e:H b with
 |none=>exact absurd e h
 |some o=>rw [s b o e];simp
theorem ZS.nn {H H':Hp} (s:ZS H H') {b:Addr} (h:H b≠none):H' b≠none:=by
 cases e:H b with
 |none=>exact absurd e h
 |some o=>exact (s b o e).1
theorem Zf3 {H H':Hp} {x dx:Addr} {o1 o2:HO} (hx:H x=none) (hdx:H dx=none) (kp:∀b o,b≠x->upd (upd H dx o1) x o2 b=some o->(∀ps,o≠ .tbl ps)->H' b=some o)
 (nn:∀b,upd (upd H dx o1) x o2 b≠none->H' b≠none):ZS H H':=fun b o e=>by
 have n1:=Zq e hx
 have e2:upd (upd H dx o1) x o2 b=some o:=(Zn n1).trans ((Zn (Zq e hdx)).trans e)
 exact ⟨nn b (by rw [e2];simp),fun n=>kp b o n1 e2 n⟩
theorem Zen {P:Addr} {H H':Hp} {x dx:Addr} {o1 o2:HO} (hx:H x=none) (hdx:H dx=none) (kp:∀b o,b≠x->b≠P->upd (upd H dx o1) x o2 b=some o->H' b=some o):Yq P H H':=fun b o n e=>by
 have n1:=Zq e hx
 exact kp b o n1 n ((Zn n1).trans ((Zn (Zq e hdx)).trans e))
def ZA8 (ps:List (Int×V)):List (Key×V):=ps.map fun p=>(.inl p.1,p.2)
end L2
namespace LO
theorem ZkA {α:Type} {l:List α} {i:Nat} {x:α} (f:α->Bool) (h:l[i]?=some x):(l.take (i+1)).countP f=(l.take i).countP f+if f x then 1 else 0:=by
 rw [List.take_succ,h,List.countP_append]
 show _+[x].countP f=_
 rw [List.countP_singleton]
end LO
namespace L2
open PySem
open PySem.Spec PyProof.Rows
section
variable {X:Cx} {pos:Pos} {K:PySem.W.Frag}
theorem Zjj {es:List Expr} {k:Nat} {t:TGs} {n:Nat} (hK:X.K=K) (hc:X.calm=true) (h:PGs X es t)
 (hn:(assignEach es X.env).length=n:=by rfl) (hst:(assignEach es X.env).findIdx? (·.1)=none:=by rfl):PG X (.Tuple es k pos) (ZoW K n t):=by
 subst hK
 exact Zpf hc h hn hst
def b2i (b:Bool):Int:=if b then 1 else 0
def Zx9:List V->Hp->VK->Prop:=fun xs H Q=>match xs with
 |[.bl b]=>Q (.int (b2i b)) H
 |[.int i]=>Q (.int i) H
 |_=>False
theorem Zro:Jc X (.type "int") Zx9:=by
 intro Za s σ H xs us Q I r h
 unfold Zx9 at h
 split at h
 ·rename_i b
  obtain ⟨u,rfl,rfl⟩:=JA r
  exact call_int_bool ⟨.int (b2i b),H,I.tok _,⟨_,rfl⟩,h⟩
 ·rename_i i
  obtain ⟨u,rfl,t,rfl⟩:=JA r
  exact call_int_int ⟨.int i,H,I,⟨_,rfl⟩,h⟩
 ·exact h.elim
def ZAy (K:PySem.W.Frag) (a:Addr) (xs:List V) (g:TG) (tb:TS):TS:=fun D σ H=>∃Pv:Nat->St->Hp->Prop,Pv 0 σ H/\(∀i σ H,i<=xs.length->Pv i σ H->SqT K H a xs)/\
 (∀i x σ H,xs[i]?=some x->Pv i σ H->g x σ H fun σ2 H2=>tb {nx:=Pv (i+1),rt:=D.rt,bk:=D.nx,ct:=Pv (i+1)} σ2 H2)/\∀σ H,Pv xs.length σ H->D.nx σ H
def ZrL (K:PySem.W.Frag) (tl:TE) (g:TG) (tb:TS):TS:=fun D σ H=>tl σ H fun v H1=>match v with
 | .ref a=>∃xs,SqT K H1 a xs/\ZAy K a xs g tb D σ H1
 |_=>False
theorem ZqM {l tg:Expr} {body:List Stmt} {tl:TE} {g:TG} {tb:TS} (hK:X.K=K) (hp:PassesOwn (model X.prog X.w) X.A X.env X.xe) (hc:X.calm=true) (hl:PE X l tl) (hg:PG X tg g) (hb:PSs X body tb)
 (hf:∀x,foldedSetIterable l X.env x=pure x:=by intro _;rfl):PS X (.For tg l body [] pos) (ZrL K tl g tb):=by
 subst hK
 have hl':PE X l (fun σ H Q=>∃Q0:VK,tl σ H Q0/\∀v H',Q0 v H'->Q v H'):=hl.imp fun σ H Q h=>h
 intro Za s σ H D I h
 refine Zgn hp hc (ZtN hl') hg hb hf Za s σ H D I ⟨_,h,fun v H1 q=>?_⟩
 cases v with
 |ref a=>
  obtain ⟨xs,hx,Pv,h0,hs,h1,hd⟩:=q
  exact ⟨a,rfl,⟨xs,hx⟩,Zqn Pv h0 hs h1 hd⟩
 |_=>exact False.elim q
end
end L2
namespace LO
end LO
namespace L2
open PySem
end L2
namespace LO
end LO
namespace L2
open PySem PySem.Spec PyProof.Rows
def Bd (i:Int) (m:Nat):Prop:=0<=i/\i<=m
theorem ZhX:∀{x:V},Jx x=true->eqV x x=true:=by
 intro x h
 cases x<;>first|(simp [eqV];done)|(simp [Jx] at h;done)
theorem ZAf {x y:V} (hx:Jx x=true) (hy:Jx y=true):∀v∈[x,y],Jx v=true:=by
 intro v hv
 rcases mem_cons.mp hv with rfl|hv
 ·exact hx
 ·cases mem_singleton.mp hv
  exact hy
theorem ZAu {x y z:V} (hx:Jx x=true) (hy:Jx y=true) (hz:Jx z=true):∀v∈[x,y,z],Jx v=true:=by
 intro v hv
 rcases mem_cons.mp hv with rfl|hv
 ·exact hx
 ·exact ZAf hy hz v hv
def ZBj (h:Heap) (a:Addr) (z:Str) (t:Tok) (i:Int):Prop:=∃o,h.get? a=some o/\o.cls=.type "reversed"/\o.data=.fields #[.str z t,rawInt i]
structure ZBw (K:PySem.W.Frag) (x qual:Str) (st:Stmt) (f T:Addr) (fd:FuncData):Prop where
 ex:∃(oc:Value) (od:Option Addr) (kV doc pm:Value) (an:Option Addr) (cdv ct:Value) (osl:Array (Option Value)),
  fd=fnOf x qual (ZB st) (Zy st) (Zk st) (.ref T) kV doc pm an cdv ct/\K.lookup f=some ⟨oc,od,.func fd,osl⟩/\codeIn K cdv qual=true
 kp:keepIn K (.ref f)=true
def ZAC (x d:Addr) (H H':Hp):Prop:=(∀b o,b≠x->b≠d->H b=some o->(∀ps,o≠ .tbl ps)->H' b=some o)/\∀b,H b≠none->H' b≠none
def ZfX (l:List Nat) (r:Nat):Nat:=(LO.ord l).getD r 0
def ZpJ (ps:List (Int×V)) (l:List Nat) (g:Int) (k:Nat):Prop:=∀r:Int,ps.lookup r=if 0<=r/\r<k/\(ZfX l r.toNat:Int)%g=0 then some (.int (ZfX l r.toNat:Nat)) else none
def fsF (h d:Addr) (g:Int):List (Str×V):=[("held",.ref h),("gap",.int g),("known",.ref d)]
def ZBn (C CL:Addr) (H:Hp) (x:Addr) (l:List Nat) (g:Int):Prop:=∃dx h d ps,H x=some (.ins C dx (fsF h d g))/\ZbE CL H h (LO.Z5 l) (LO.Zdg l)/\H d=some (.dK (ZA8 ps))/\ZpJ ps l g (l.length+1)/\1<=g
end L2
namespace LO
end LO
namespace L2
open PySem
open PySem.Spec PyProof.Rows
structure ZBA (P:Program) (w:World) (K:PySem.W.Frag) (mg:Str->Option Value) (base:Heap) (CX:CXT) (k:Nat) (x:Str) (C:Addr) (ps:List Str) (kw:Str) (sp:Sp):Prop where
 ex:∃f fd,Z4 P w K mg base CX k f fd ps sp/\Mk K C f/\∀(s:Shared) (a b c:Value),K.In s.heap->BindsTo s fd ⟨[a,b],[(kw,c)]⟩ (ps.zip [a,b,c])
 at_:mg x=some (.ref C)
theorem Zk1 {cs:List Nat} {h d:Nat} (r:Nat) (hh:h<=cs.length) (hd:d≠10):((zV cs h).take r).count d=(cs.take (r-if h<r then 1 else 0)).count d:=by
 have e:zV cs h=cs.take h++10::cs.drop h:=rfl
 have lt:(cs.take h).length=h:=by rw [length_take];omega
 rw [e]
 by_cases c:h<r
 ·rw [if_pos c,List.take_append,List.take_of_length_le (show (cs.take h).length<=r by omega),lt,show r-h=(r-1-h)+1 by omega,List.take_succ_cons,List.count_append,List.count_cons_of_ne (Ne.symm hd)]
  have:cs.take (r-1)=cs.take h++(cs.drop h).take (r-1-h):=by
   rw [<-List.take_add,show h+(r-1-h)=r-1 by omega]
  rw [this,List.count_append]
 ·rw [if_neg c,Nat.sub_zero,List.take_append_of_le_length (by omega),List.take_take,Nat.min_eq_left (by omega)]
theorem ZlC {cs:List Nat} {h i:Nat} (hh:h<=cs.length) (hi:i<=cs.length) (hn:i≠h):(zV cs h).getD i 0=cs.getD (i-if h<i then 1 else 0) 0:=by
 rw [List.getD_eq_getElem?_getD,Zgu hh,List.getD_eq_getElem?_getD]
 by_cases c:i<h
 ·rw [if_pos c,if_neg (by omega),Nat.sub_zero]
 ·rw [if_neg c,if_neg hn,if_pos (by omega)]
def ZBl (x d t1 t2:Addr) (H H':Hp):Prop:=ZAC x d H H'/\∀b o,b≠x->b≠d->b≠t1->b≠t2->H b=some o->H' b=some o
end L2
namespace LO
open L2
end LO
namespace L2
open PySem PySem.Spec PyProof.Rows
structure FnD (P:Program) (w:World) (K:PySem.W.Frag) (mg:Str->Option Value) (base:Heap) (k:Nat) (x:Str) (ps:List Str) (dvs:List V) (sp:Sp):Prop where
 ex:∃f fd ds,Z4 P w K mg base CX0 k f fd ps sp/\mg x=some (.ref f)/\keepIn K (.ref f)=true/\J8 K fd ps ds/\ZD dvs ds
structure FnK (P:Program) (w:World) (K:PySem.W.Frag) (mg:Str->Option Value) (base:Heap) (k:Nat) (x:Str) (ps:List Str) (kw:Str) (sp:Sp):Prop where
 ex:∃f fd,Z4 P w K mg base CX0 k f fd ps sp/\mg x=some (.ref f)/\keepIn K (.ref f)=true/\∀(s:Shared) (a c:Value),K.In s.heap->BindsTo s fd ⟨[a],[(kw,c)]⟩ (ps.zip [a,c])
end L2
namespace LO
open LW L2
def sz (l:List Nat) (m r:Nat):Nat:=com (l.drop (ZfX l r)) (l.drop (ZfX l (r+(m-1))))
def pc (l:List Nat) (m r:Nat):List Nat:=(l.drop (ZfX l r)).take (sz l m r)
structure Lng (l:List Nat) (m i:Nat) (c:List Nat):Prop where
 one:m<=ZdX l c
 most:∀r,r<i->sz l m r<=c.length
 first:∀r,r<i->sz l m r=c.length->¬pc l m r<c
 src:∀j,i<=j->j<=l.length->¬(l.drop (ZfX l j)).take c.length<c
end LO
namespace L2
open PySem PySem.Spec PyProof.Rows
section
variable {prog:Program} {w:World} {A:Around} {E:Value->Shared->Prop} {s:Shared}
structure Zap (z TI TO i1 i2:Addr):Prop where
 TIz:TI≠z
 TOz:TO≠z
 i1z:i1≠z
 i2z:i2≠z
 TITO:TI≠TO
 TIi1:TI≠i1
 TIi2:TI≠i2
 TOi1:TO≠i1
 TOi2:TO≠i2
 i12:i1≠i2
variable {z TI TO i1 i2:Addr} {n1 n2 k:Nat} {P1 P2:Nat->Value->Prop} {S1 S2:Nat->Heap->Prop} {a b:Value}
end
open Builtin Builtin.Str
end L2
namespace LG
open LO
def suf (u:List Nat) (k:Nat):List Nat:=u.drop (u.length-k)
def lg (l u:List Nat):Nat:=((List.range u.length).takeWhile fun k=>decide (ZdX l (suf u (k+1))≠0)).length
structure Row (l u:List Nat) (ps:List (List Nat)):Prop where
 flat:ps.flatten=u
 each:∀a x b,ps=a++x::b->x≠[]/\(ZdX l x=0->x.length=1)/\(ZdX l x≠0->a.flatten≠[]->ZdX l (suf (a.flatten++x) (x.length+1))=0)
structure ZBz (z y c:List Nat):Prop where
 one:ZdX z c≠0
 two:ZdX y c≠0
 most:∀w,ZdX z w≠0->ZdX y w≠0->w.length<c.length\/w.length=c.length/\¬w<c
def Zw7 (z y:List Nat) (i:Nat):List Nat:=suf (y.take i) (lg z (y.take i))
structure ZBu (z y:List Nat) (i:Nat) (c:List Nat):Prop where
 one:ZdX z c≠0
 two:ZdX y c≠0
 most:∀j,j<i->(Zw7 z y j).length<c.length\/(Zw7 z y j).length=c.length/\¬Zw7 z y j<c
open L2
end LG
namespace L2
open PySem
open PySem.Spec PyProof.Rows
theorem Zc2 {y:Str} {c:Nat} (h:L y=[c]):y=⟨#[c]⟩:=by
 have:=T_L y
 rw [h] at this
 exact this.symm
theorem ZeG (z:Str) (i j:Nat):Builtin.Str.strSub z i j=T (((L z).take j).drop i):=by
 have e:L (Builtin.Str.strSub z i j)=((L z).take j).drop i:=by
  show (z.cps.extract i j).toList=_
  rw [Array.toList_extract]
  show ((z.cps.toList).drop i).take (j-i)=_
  rw [List.drop_take]
  rfl
 rw [<-e,T_L]
theorem ZbR {f:Nat->Bool}:∀{l:List Nat},(∀c∈l,f c=true)->l.takeWhile f=l
 |[],_=>rfl
 |c::r,h=>by rw [List.takeWhile_cons_of_pos (h c (mem_cons_self ..)),ZbR fun d hd=>h d (mem_cons_of_mem _ hd)]
theorem ZaQ {f:Nat->Bool}:∀{l:List Nat} {c:Nat},c∈l->f c=false->(l.takeWhile f).length<l.length
 |d::r,c,hc,h=>by
  rw [List.takeWhile_cons]
  split
  ·rename_i hd
   rcases mem_cons.mp hc with e|hc
   ·rw [e,hd] at h
    cases h
   ·have:=ZaQ hc h
    rw [length_cons,length_cons]
    omega
  ·rw [length_cons,length_nil]
   omega
theorem Zbs {f:Nat->Bool}:∀{l:List Nat} {c:Nat},c∈l->f c=false->∃d∈l.drop (l.takeWhile f).length,f d=false
 |d::r,c,hc,h=>by
  rw [List.takeWhile_cons]
  split
  ·rename_i hd
   rcases mem_cons.mp hc with e|hc
   ·rw [e,hd] at h
    cases h
   ·obtain ⟨x,h1,h2⟩:=Zbs hc h
    exact ⟨x,by rw [length_cons,List.drop_succ_cons];exact h1,h2⟩
  ·rename_i hd
   exact ⟨d,mem_cons_self ..,by simpa using hd⟩
theorem Zll (z y:Str):L (Txt.stripChars z y)=[]↔∀c∈L z,y.cps.contains c=true:=by
 have e0:Txt.stripChars z y=T (((L z).take (stripHi y.cps.contains true z (stripLo y.cps.contains true z))).drop (stripLo y.cps.contains true z)):=by
  unfold Txt.stripChars Txt.stripBy
  by_cases hs:stripSame y.cps.contains true true z=true
  ·rw [if_pos hs]
   unfold stripSame at hs
   rw [Bool.and_eq_true] at hs
   rw [eq_of_beq hs.1]
   have h2:=eq_of_beq hs.2
   rw [eq_of_beq hs.1] at h2
   rw [h2,<-Z8,List.take_length]
   exact (T_L z).symm
  ·rw [if_neg hs]
   unfold stripped
   exact ZeG ..
 have elo:stripLo y.cps.contains true z=((L z).takeWhile y.cps.contains).length:=rfl
 have ehi:∀lo,stripHi y.cps.contains true z lo=(L z).length-(((L z).drop lo).reverse.takeWhile y.cps.contains).length:=fun lo=>by rw [Z8];rfl
 rw [e0,L_T,ehi,elo]
 constructor
 ·intro h c hc
  cases hg:y.cps.contains c with
  |true=>rfl
  |false=>
   exfalso
   obtain ⟨d,hd,hd2⟩:=Zbs hc hg
   have l1:=ZaQ hc hg
   have l2:=ZaQ (f:=y.cps.contains) (List.mem_reverse.mpr hd) hd2
   rw [length_reverse,length_drop] at l2
   have:=congrArg List.length h
   rw [length_drop,length_take,length_nil] at this
   omega
 ·intro h
  rw [ZbR h,List.drop_eq_nil_of_le]
  rw [length_take]
  omega
section
variable {X:Cx}
def ZkN:List V->Hp->VK->Prop:=fun xs H Q=>match xs with
 |[.int i]=>i.natAbs.log2<1920/\Q (.str (T (ZJ i))) H
 |_=>False
theorem ZhL:Jc X (.type "str") ZkN:=by
 intro Za s σ H xs us Q I r h
 unfold ZkN at h
 split at h
 ·rename_i i
  obtain ⟨hi,q⟩:=h
  obtain ⟨u,rfl,t,rfl⟩:=JA r
  have e:T (ZJ i)=(toString i:Str):=T_L _
  rw [e] at q
  exact PySem.P.str_of_int hi ⟨.str _,H,I.tok _,⟨_,rfl⟩,q⟩
 ·exact h.elim
def ZiO:List V->Hp->VK->Prop:=fun xs H Q=>match xs with
 |[.bl b]=>Q (.int (b2i b)) H
 |[.int i]=>Q (.int i) H
 |[.str z]=>(L z).length<=640/\L z≠[]/\(∀c∈L z,48<=c/\c<=57)/\Q (.int (NumText.digitsVal (L z):Nat)) H
 |_=>False
theorem ZgE:Jc X (.type "int") ZiO:=by
 intro Za s σ H xs us Q I r h
 unfold ZiO at h
 split at h
 ·exact Zro Za s σ H _ us Q I r h
 ·exact Zro Za s σ H _ us Q I r h
 ·rename_i z
  obtain ⟨hl,h0,hd,q⟩:=h
  obtain ⟨u,rfl,t,rfl⟩:=JA r
  rw [Z8] at hl
  exact PySem.W.KIN.call_text (intText_digits (x:=z) hd h0 (by omega)) hl ⟨.int _,H,I.tok _,⟨_,rfl⟩,q⟩
 ·exact h.elim
def ZxQ:V->List V->Hp->VK->Prop:=fun x vs H Q=>match x,vs with
 | .str z,[.str y,.int i]=>∃c,L y=[c]/\0<=i/\∀r:Int,((r= -1/\∀v,i.toNat<=v->(L z)[v]?≠some c)\/∃k:Nat,r=k/\i.toNat<=k/\(L z)[k]?=some c/\∀v,i.toNat<=v->v<k->(L z)[v]?≠some c)->Q (.int r) H
 |_,_=>False
theorem ZtY:MtR X "str.find" ZxQ:=by
 intro Za s σ H x vs v us Q I rx rv h
 unfold ZxQ at h
 split at h
 ·rename_i z y i
  obtain ⟨c,hy,hi,q⟩:=h
  obtain ⟨t,rfl⟩:=rx
  obtain ⟨u,w,rfl,⟨t',rfl⟩,t'',rfl⟩:=ZdL rv
  refine SC.find3 ⟨.int (Txt.find3 z y i),H,I.tok _,⟨_,rfl⟩,q _ ?_⟩
  rw [Zc2 hy]
  unfold Txt.find3
  have lo:∀v,i.toNat<=v->v<z.length->fromIndex z.length i<=v:=fun v h1 h2=>by
   unfold fromIndex
   rw [if_neg (by omega)]
   omega
  have hi2:∀v,fromIndex z.length i<=v->v<z.length->i.toNat<=v:=fun v h1 h2=>by
   unfold fromIndex at h1
   rw [if_neg (by omega)] at h1
   omega
  have lt:∀{v},(L z)[v]?=some c->v<z.length:=fun e=>by
   rw [<-Z8]
   exact (List.getElem?_eq_some_iff.mp e).1
  rcases StrLaws.occ_head_from z ⟨#[c]⟩ (fromIndex z.length i) 1 (Nat.le_refl 1) with ⟨h0,hn⟩|⟨k,r,h0,hlo,hk,hn⟩
  ·rw [h0]
   exact .inl ⟨rfl,fun v h1 e=>hn v (lo v h1 (lt e)) ((StrLaws.subAt_one z c v).mpr e)⟩
  ·rw [h0]
   have hm:=(StrLaws.subAt_one z c k).mp hk
   exact .inr ⟨k,rfl,hi2 k hlo (lt hm),hm,fun v h1 h2 e=>hn v (lo v h1 (lt e)) h2 ((StrLaws.subAt_one z c v).mpr e)⟩
 ·exact h.elim
def ZqT:V->List V->Hp->VK->Prop:=fun x vs H Q=>match x,vs with
 | .str z,[.str y]=>∃c,L y=[c]/\(L z).length<=sizeLine/\(∀k:Nat,(L z)[k]?=some c->(∀v,v<k->(L z)[v]?≠some c)->∀p,H p=none->Q (.ref p) (upd H p (.tup [.str (T ((L z).take k)),.str (T [c]),.str (T ((L z).drop (k+1)))])))/\
   ((∀v:Nat,(L z)[v]?≠some c)->∀p,H p=none->Q (.ref p) (upd H p (.tup [.str z,.str (T []),.str (T [])])))
 |_,_=>False
theorem ZdO:MtR X "str.partition" ZqT:=by
 intro Za s σ H x vs v us Q I rx rv h
 unfold ZqT at h
 split at h
 ·rename_i z y
  obtain ⟨c,hy,hl,q1,q2⟩:=h
  obtain ⟨t,rfl⟩:=rx
  obtain ⟨u,rfl,t',rfl⟩:=JA rv
  have hy2:=Zc2 hy
  subst hy2
  rw [Z8] at hl
  have hn:=I.hok.fresh (Nat.le_refl s.heap.objs.size)
  refine call_meets F.slot_str_partition (typeIs_str _ _ _) F.entry_str_partition (F.args_str_partition_2 _ _) (meets_str_partition z ⟨#[c]⟩ t t' rfl hl) ?_
  rcases StrLaws.occ_head z ⟨#[c]⟩ 1 (Nat.le_refl 1) with ⟨h0,h1⟩|⟨k,r,h0,hk,h1⟩
  ·rw [h0]
   refine ⟨.ref s.heap.objs.size,_,?_,rfl,q2 (fun v e=>h1 v ((StrLaws.subAt_one z c v).mpr e)) _ hn⟩
   refine I.laid (fun b o e=>Heap.get?_push_of_some _ e) (Nat.le_refl _) ⟨by simp only [length_cons,length_nil];rw [sizeLine_eq];decide,[.str z t,.str Str.empty s.toks,.str Str.empty s.toks],.cons ⟨_,rfl⟩ (.cons ⟨_,rfl⟩ (.cons ⟨_,rfl⟩ .nil)),?_⟩
   exact ⟨_,Heap.get?_push_size s.heap rfl,rfl,0,rfl⟩
  ·rw [h0]
   have hm:=(StrLaws.subAt_one z c k).mp hk
   refine ⟨.ref s.heap.objs.size,_,?_,rfl,q1 k hm (fun v h2 e=>h1 v h2 ((StrLaws.subAt_one z c v).mpr e)) _ hn⟩
   refine I.laid (fun b o e=>Heap.get?_push_of_some _ e) (Nat.le_refl _) ⟨by simp only [length_cons,length_nil];rw [sizeLine_eq];decide,[.str (Builtin.Str.strSub z 0 k) s.toks,.str ⟨#[c]⟩ t',.str (Builtin.Str.strSub z (k+1) z.length) (s.toks+1)],.cons ⟨s.toks,?_⟩ (.cons ⟨_,rfl⟩ (.cons ⟨s.toks+1,?_⟩ .nil)),?_⟩
   ·rw [ZeG]
    rfl
   ·rw [ZeG,<-Z8,List.take_length]
   ·exact ⟨_,Heap.get?_push_size s.heap rfl,rfl,0,rfl⟩
 ·exact h.elim
def Zqa:V->List V->Hp->VK->Prop:=fun x vs H Q=>match x,vs with
 | .str z,[.str y]=>(L z).length<=sizeLine/\∀l:List Nat,(l=[]↔∀c∈L z,c∈L y)->Q (.str (T l)) H
 |_,_=>False
theorem ZjJ:MtR X "str.strip" Zqa:=by
 intro Za s σ H x vs v us Q I rx rv h
 unfold Zqa at h
 split at h
 ·rename_i z y
  obtain ⟨hl,q⟩:=h
  obtain ⟨t,rfl⟩:=rx
  obtain ⟨u,rfl,t',rfl⟩:=JA rv
  rw [Z8] at hl
  refine SC.stripChars (fun t2 k=>⟨.str (T (L (Txt.stripChars z y))),H,I.tok _,⟨_,by rw [T_L]⟩,q _ ?_⟩) hl
  rw [Zll]
  refine forall_congr' fun c=>forall_congr' fun _=>?_
  show (y.cps.contains c=true)↔c∈y.cps.toList
  rw [Array.contains_iff,Array.mem_toList_iff]
 ·exact h.elim
end
section
variable {X:Cx}
variable {elt iter:Expr} {ifs:List Expr} {u v:Str} {pu pv:Pos} {scope:Scope} {pos:Pos} {cl:List (Str×Addr)} {own:List Str} {cp:List (Str×Nat)} {ta:TA} {tl:TE} {tc:TT} {te:TE}
theorem ZoL {K:PySem.W.Frag} {i₀:Nat} {y₀:Str} {p₀ p₁:Pos} {k:Nat} {tp:Pos} (hK:X.K=K) (hc:X.calm=true) (hcl:Ja scope.names X.env.cells []=some cl) (hk:scope.kind=.function) (hnc:∀y∈scope.names,y.2≠ .cell)
 (hnm:∀x∈scope.names,x.2=.local->scope.names.lookup x.1=some .local) (hcp:Zam X scope cp) (hl:PE X iter tl) (hn:1<own.length)
 (gu:∀fp C s H,PG (cxC X scope cl (own++cp.map (·.1)) fp C s H) (.Name u pu) (Zz 0)) (gv:∀fp C s H,PG (cxC X scope cl (own++cp.map (·.1)) fp C s H) (.Name v pv) (Zz 1))
 (ht:∀fp C s H,PFs (cxC X scope cl (own++cp.map (·.1)) fp C s H) ifs tc) (he:∀fp C s H,PE (cxC X scope cl (own++cp.map (·.1)) fp C s H) elt te)
 (hN:X.N.Nodup) (hi₀:X.N[i₀]?=some y₀) (hx₀:X.env.scope.names.lookup y₀=some .local) (hsw:swapsWith (.ListComp elt [⟨.Tuple [.Name u pu,.Name v pv] k tp,iter,ifs,0⟩] scope pos) (some (.Name y₀ p₀)) p₁.line X.env=pure true:=by rfl)
 (hs:∀z,foldedSetIterable iter X.env z=pure z:=by intro _;rfl)
 (h1:∀C,(assignEach [.Name u pu,.Name v pv] (compEnvC scope cl C X.env)).map (·.2)=assign (.Name u pu) (compEnvC scope cl C X.env)::(assignEach [.Name v pv] (compEnvC scope cl C X.env)).map (·.2):=by intro _;rfl) (h2:∀C,(assignEach [.Name v pv] (compEnvC scope cl C X.env)).map (·.2)=assign (.Name v pv) (compEnvC scope cl C X.env)::(assignEach [] (compEnvC scope cl C X.env)).map (·.2):=by intro _;rfl)
 (h3:∀C,(assignEach [.Name u pu,.Name v pv] (compEnvC scope cl C X.env)).length=2:=by intro _;rfl) (h4:∀C,(assignEach [.Name u pu,.Name v pv] (compEnvC scope cl C X.env)).findIdx? (·.1)=none:=by intro _;rfl):
 PS X (.Assign [.Name y₀ p₀] (.ListComp elt [⟨.Tuple [.Name u pu,.Name v pv] k tp,iter,ifs,0⟩] scope pos) p₁) (Z3 (tCP K own.length cp tl tc te) (Zz i₀)):=by
 subst hK
 have hl':PE X iter (fun σ H Q=>∃Q0:VK,tl σ H Q0/\∀v H',Q0 v H'->Q v H'):=hl.imp fun σ H Q h=>h
 intro Za s σ H D I h
 refine Zkm hc hcl hk hnc hnm hcp (ZcP hl') (Zzm (i:=0) (j:=1) (by omega) (by omega)) (Zx7 (hc:=hc) gu gv h1 h2 h3 h4) (fun fp C s H=>(ht fp C s H).imp (t':=Zlg tc) fun _ _ _ z=>z) (fun fp C s H=>(he fp C s H).imp (t':=ZkT te) fun _ _ _ z=>z) hN hi₀ hx₀ hsw hs Za s σ H D I ?_
 refine ⟨_,h,fun v H1 q=>?_⟩
 cases v with
 |ref a=>
  obtain ⟨xs,hx,hz,Pv,p0,pl,ps,pe⟩:=q
  have hsl:sizeLine=16777216:=sizeLine_eq
  refine ⟨a,rfl,⟨xs,hx⟩,fun i m H2 acc=>m=xs.length-i/\i<=xs.length/\acc.length<=i/\Pv i H2 acc,⟨xs.length,by omega,Nat.zero_le _,Nat.le_refl _,p0⟩,?_⟩
  rintro i m H2 acc ⟨rfl,hi,hla,pv'⟩
  refine ⟨by omega,?_⟩
  have hx2:=pl i H2 acc hi pv'
  by_cases hlt:i<xs.length
  ·refine .inr ⟨⟨xs,xs[i],hx2,by simp [hlt]⟩,fun y H3 ⟨e3,ey⟩=>?_⟩
   subst e3
   obtain ⟨t,x0,y0,e4,e5,q1⟩:=ps i y H3 acc (ey xs hx2) pv'
   subst e4
   refine ⟨t,_,rfl,e5,rfl,_,_,rfl,_,_,rfl,rfl,?_⟩
   exact ZbC (N':=fun H a=>∃m',m'<xs.length-i/\(m'=xs.length-(i+1)/\i+1<=xs.length/\a.length<=i+1/\Pv (i+1) H a)) (fun H a ha z=>⟨xs.length-(i+1),by omega,rfl,hlt,by omega,z⟩) q1
  ·have e:i=xs.length:=by omega
   subst e
   exact .inl ⟨⟨xs,hx2,Nat.le_refl _⟩,fun l hl'=>pe H2 acc pv' l hl'⟩
 |_=>exact False.elim q
end
end L2
namespace LP
open PySem L2
theorem Zb2 {a:Nat×Nat} {r:List (Nat×Nat)} (g:YS (a::r)):YS r:=⟨fun x hx=>g.1 x (mem_cons_of_mem _ hx),fun j x y h1 h2=>g.2 (j+1) x y (by simpa using h1) (by simpa using h2)⟩
theorem JE (a:Nat×Nat) (r:List (Nat×Nat)):flat (a::r)=List.replicate a.2 a.1++flat r:=by
 unfold flat
 rw [map_cons,List.flatten_cons]
theorem Zku {r:List (Nat×Nat)} {c:Nat} {t:List Nat} (g:YS r) (h:flat r=c::t):∃n q,r=(c,n)::q:=by
 cases r with
 |nil=>cases h
 |cons a q=>
  have h1:=g.1 a (mem_cons_self ..)
  rw [JE,show a.2=(a.2-1)+1 by omega,replicate_succ,cons_append] at h
  have e:=(List.cons.inj h).1
  exact ⟨a.2,q,by rw [<-e]⟩
theorem ZaG:∀{a b:List (Nat×Nat)},YS a->YS b->flat a=flat b->a=b
 |[],[],_,_,_=>rfl
 |[],b::r,_,g,h=>by
  have:=g.1 b (mem_cons_self ..)
  rw [JE,show b.2=(b.2-1)+1 by omega,replicate_succ] at h
  cases h
 |a::q,[],g,_,h=>by
  have:=g.1 a (mem_cons_self ..)
  rw [JE,show a.2=(a.2-1)+1 by omega,replicate_succ] at h
  cases h
 |(c,n)::q,(d,m)::r,g1,g2,h=>by
  have n1:1<=n:=g1.1 (c,n) (mem_cons_self ..)
  have m1:1<=m:=g2.1 (d,m) (mem_cons_self ..)
  rw [JE,JE] at h
  have ecd:c=d:=by
   have h':=h
   rw [show n=(n-1)+1 by omega,show m=(m-1)+1 by omega,replicate_succ,replicate_succ,cons_append,cons_append] at h'
   exact (List.cons.inj h').1
  subst ecd
  have key:∀{n m:Nat} {q r:List (Nat×Nat)},YS ((c,n)::q)->n<m->List.replicate n c++flat q≠List.replicate m c++flat r:=fun {n m q r} g lt e=>by
   have e1:flat q=List.replicate (m-n) c++flat r:=by
    rw [show m=n+(m-n) by omega,List.replicate_append_replicate.symm,append_assoc] at e
    exact List.append_cancel_left e
   rw [show m-n=(m-n-1)+1 by omega,replicate_succ,cons_append] at e1
   obtain ⟨k,q2,rfl⟩:=Zku (Zb2 g) e1
   exact g.2 0 (c,n) (c,k) rfl rfl rfl
  have enm:n=m:=by
   rcases Nat.lt_trichotomy n m with z|z|z
   ·exact absurd h (key g1 z)
   ·exact z
   ·exact absurd h.symm (key g2 z)
  subst enm
  rw [ZaG (Zb2 g1) (Zb2 g2) (List.append_cancel_left h)]
def wr (rs:List (Nat×Nat)):List Nat:=(rs.map fun r=>r.1::(ZJ (r.2:Nat)++[59])).flatten
theorem ZcS (rs:List (Nat×Nat)) (r:Nat×Nat):wr (rs++[r])=wr rs++(r.1::(ZJ (r.2:Nat)++[59])):=by
 unfold wr
 rw [map_append,List.flatten_append,map_singleton,List.flatten_singleton]
theorem Zg2:∀n:Nat,n<301->(ZJ (n:Int)).length<=3/\1<=(ZJ (n:Int)).length/\(∀c∈ZJ (n:Int),48<=c/\c<=57)/\((ZJ (n:Int)).getD 0 0=48->ZJ (n:Int)=[48])/\NumText.digitsVal (ZJ (n:Int))=n:=by decide +kernel
theorem qe {rs:List (Nat×Nat)} {r:Nat×Nat} (h:r∈rs) (hl:(flat rs).length<=300):r.2<301:=by
 have:=Zg5 h
 omega
theorem Zb6:∀{rs:List (Nat×Nat)},YS rs->rs.length<=(flat rs).length
 |[],_=>Nat.le_refl _
 |a::r,g=>by
  have h1:=g.1 a (mem_cons_self ..)
  have:=Zb6 (Zb2 g)
  rw [JE,length_append,length_replicate,length_cons]
  omega
theorem Zfm:∀{rs:List (Nat×Nat)},(∀r∈rs,r.2<301)->(wr rs).length<=5 * rs.length
 |[],_=>Nat.le_refl _
 |a::r,h=>by
  have h1:=(Zg2 a.2 (h a (mem_cons_self ..))).1
  have:=Zfm (rs:=r) fun x hx=>h x (mem_cons_of_mem _ hx)
  have e:wr (a::r)=(a.1::(ZJ (a.2:Nat)++[59]))++wr r:=by
   unfold wr
   rw [map_cons,List.flatten_cons]
  rw [e,length_append,length_cons,length_append,length_singleton,length_cons]
  omega
theorem ZkH:∀n:Nat,n<301->((n:Int)).natAbs.log2<1920:=by decide +kernel
theorem Zh9:∀rs:List (Nat×Nat),(rs.map fun r=>((r.2:Nat):Int)).sum=((flat rs).length:Int)
 |[]=>rfl
 |a::r=>by
  rw [map_cons,List.sum_cons,Zh9 r,JE,length_append,length_replicate]
  omega
theorem Zhs (rs:List (Nat×Nat)):(rs.map fun r=>rep r.2 [r.1]).flatten=flat rs:=by
 unfold flat
 congr 1
 refine map_congr_left fun r _=>?_
 exact Zp2 _ _
end LP
namespace L2
open PySem PySem.Spec PyProof.Rows
end L2
namespace LP
open PySem L2 NumText
def ZbS (l:List Nat):Prop:=1<=l.length/\l.length<=9/\(∀c∈l,48<=c/\c<=57)/\(l.getD 0 0=48->l=[48])
theorem Zax (n:Nat):ZJ (n:Int)=(Nat.toDigits 10 n).map Char.toNat:=PySem.W.KIN.signs_num n
theorem Zew (n:Nat):digitsVal (ZJ (n:Int))=n:=by
 rw [Zax]
 exact PySem.W.KIN.val_back n
theorem ZeJ {n m:Nat} (h:ZJ (n:Int)=ZJ (m:Int)):n=m:=by rw [<-Zew n,h,Zew]
theorem ZbN (n:Nat):∀c∈ZJ (n:Int),48<=c/\c<=57:=by
 intro c hc
 rw [Zax] at hc
 obtain ⟨ch,hch,e⟩:=List.mem_map.mp hc
 have r:=PyProof.Rows.digit_range (Nat.isDigit_of_mem_toDigits (by decide) (by decide) hch)
 rw [<-e]
 exact r
theorem Zpp {l:List Nat} (g:ZbS l):ZJ ((digitsVal l:Nat):Int)=l:=by
 obtain ⟨h1,h2,h3,h4⟩:=g
 have key:Nat.toDigits 10 (digitsVal l)=l.map Char.ofNat:=by
  cases l with
  |nil=>cases h1
  |cons c r=>
   refine toDigits_digitsVal r.length (c::r) rfl h3 ?_
   by_cases e:c=48
   ·have:=h4 (by rw [e];rfl)
    exact .inl (by rw [(List.cons.inj this).2];rfl)
   ·have:=h3 c (mem_cons_self ..)
    exact .inr ⟨c,r,rfl,by omega⟩
 rw [Zax,key,map_map]
 refine (map_congr_left fun c hc=>?_).trans (List.map_id _)
 have:=h3 c hc
 have:c=48\/c=49\/c=50\/c=51\/c=52\/c=53\/c=54\/c=55\/c=56\/c=57:=by omega
 rcases this with rfl|rfl|rfl|rfl|rfl|rfl|rfl|rfl|rfl|rfl<;>rfl
theorem ZeW {n:Nat} (h:n<301):ZbS (ZJ (n:Int)):=by
 obtain ⟨a,b,c,d,e⟩:=Zg2 n h
 exact ⟨b,by omega,c,d⟩
theorem Yx {s:Nat}:∀{a b x y:List Nat},(∀c∈a,c≠s)->(∀c∈b,c≠s)->a++s::x=b++s::y->a=b/\x=y
 |[],[],x,y,_,_,h=>⟨rfl,(List.cons.inj h).2⟩
 |[],d::b,x,y,_,hb,h=>absurd (List.cons.inj h).1.symm (hb d (mem_cons_self ..))
 |c::a,[],x,y,ha,_,h=>absurd (List.cons.inj h).1 (ha c (mem_cons_self ..))
 |c::a,d::b,x,y,ha,hb,h=>by
  obtain ⟨e1,e2⟩:=List.cons.inj h
  obtain ⟨e3,e4⟩:=Yx (fun z hz=>ha z (mem_cons_of_mem _ hz)) (fun z hz=>hb z (mem_cons_of_mem _ hz)) e2
  exact ⟨by rw [e1,e3],e4⟩
theorem ZcM (a:Nat×Nat) (r:List (Nat×Nat)):wr (a::r)=a.1::(ZJ (a.2:Nat)++59::wr r):=by
 unfold wr
 rw [map_cons,List.flatten_cons]
 simp
theorem ZvP (n:Nat):∀c∈ZJ (n:Int),c≠59:=fun c hc w=>by
 have:=ZbN n c hc
 omega
theorem Zbx (n:Nat):∀c∈ZJ (n:Int),c≠32:=fun c hc w=>by
 have:=ZbN n c hc
 omega
theorem Zgt {rs:List (Nat×Nat)} {c:Nat} {t:List Nat} (h:wr rs=c::t):∃n rs',rs=(c,n)::rs'/\t=ZJ (n:Int)++59::wr rs':=by
 cases rs with
 |nil=>cases h
 |cons a r=>
  rw [ZcM] at h
  obtain ⟨e1,e2⟩:=List.cons.inj h
  exact ⟨a.2,r,by rw [<-e1],e2.symm⟩
theorem Zbb:∀{done rs:List (Nat×Nat)} {qP:List Nat},wr rs=wr done++qP->∃tail,rs=done++tail/\qP=wr tail
 |[],rs,qP,h=>⟨rs,rfl,h.symm⟩
 |d::done,rs,qP,h=>by
  rw [ZcM,cons_append] at h
  obtain ⟨n,rs',rfl,e⟩:=Zgt h
  rw [append_assoc,cons_append] at e
  obtain ⟨e1,e2⟩:=Yx (ZvP d.2) (ZvP n) e
  obtain ⟨tail,e3,e4⟩:=Zbb e2.symm
  refine ⟨tail,?_,e4⟩
  rw [e3,<-ZeJ e1]
  rfl
def Prt (s:Nat) (l w0 b w2:List Nat):Prop:=(b=[s]/\l=w0++s::w2/\∀c∈w0,c≠s)\/(b=[]/\(∀c∈l,c≠s)/\w0=l/\w2=[])
theorem Zny {s:Nat} {l:List Nat} {k:Nat} (hk:l[k]?=some s) (hn:∀v,v<k->l[v]?≠some s):Prt s l (l.take k) [s] (l.drop (k+1)):=by
 refine .inl ⟨rfl,?_,fun c hc w=>?_⟩
 ·obtain ⟨hi,e⟩:=List.getElem?_eq_some_iff.mp hk
  rw [<-e,List.getElem_cons_drop,List.take_append_drop]
 ·obtain ⟨v,hv⟩:=List.mem_iff_getElem?.mp hc
  have lt:=(List.getElem?_eq_some_iff.mp hv).1
  rw [length_take] at lt
  rw [List.getElem?_take_of_lt (by omega),w] at hv
  exact hn v (by omega) hv
theorem ZsT {s:Nat} {l:List Nat} (h:∀v:Nat,l[v]?≠some s):Prt s l l [] []:=.inr ⟨rfl,fun c hc w=>by
 obtain ⟨v,hv⟩:=List.mem_iff_getElem?.mp hc
 exact h v (w▸hv),rfl,rfl⟩
theorem ZvI {s:Nat} {l w0 b w2 a x:List Nat} (p:Prt s l w0 b w2) (ha:∀c∈a,c≠s) (h:l=a++s::x):b=[s]/\w0=a/\w2=x:=by
 rcases p with ⟨e,h1,h2⟩|⟨e,h1,_,_⟩
 ·obtain ⟨e1,e2⟩:=Yx h2 ha (h1.symm.trans h)
  exact ⟨e,e1,e2⟩
 ·exact absurd rfl (h1 s (by rw [h];simp))
def Pk (l:List Nat) (h:Nat) (rs:List (Nat×Nat)):Prop:=YS rs/\(flat rs).length<=300/\h<=(flat rs).length/\l=ZJ (h:Int)++32::wr rs
theorem Zm7 {l w0 b w2:List Nat} {h:Nat} {rs:List (Nat×Nat)} (k:Pk l h rs) (p:Prt 32 l w0 b w2):b=[32]/\w0=ZJ (h:Int)/\w2=wr rs:=ZvI p (Zbx h) k.2.2.2
theorem Zls {rs:List (Nat×Nat)} {a:Nat×Nat} (g:YS rs) (h:rs.getLast?=some a):(flat rs).getLast?=some a.1:=by
 obtain ⟨q,rfl⟩:∃q,rs=q++[a]:=⟨rs.dropLast,by
  cases rs with
  |nil=>cases h
  |cons x r=>
   rw [List.getLast?_eq_some_getLast (by simp)] at h
   rw [<-Option.some.inj h,List.dropLast_concat_getLast]⟩
 have h1:=g.1 a (by simp)
 rw [ZbL,show a.2=(a.2-1)+1 by omega,List.replicate_succ',<-append_assoc,List.getLast?_concat]
theorem ZhU {i:Int} (h:i.natAbs.log2<1920):(ZJ i).length<=1921:=by
 have:=PyProof.Rows.int_text_len_1921 h
 rw [<-Z8] at this
 exact this
theorem Zop {i:Int} (h0:0<=i) (h1:i<10 ^ 40):i.natAbs.log2<1920:=by
 by_cases e:i.natAbs=0
 ·rw [e]
  decide
 ·rw [Nat.log2_lt e]
  have big:(10:Int) ^ 40<((2 ^ 1920:Nat):Int):=by decide +kernel
  have e2:((i.natAbs:Nat):Int)<((2 ^ 1920:Nat):Int):=by
   rw [Int.natAbs_of_nonneg h0]
   exact Int.lt_trans h1 big
  exact Int.ofNat_lt.mp e2
def RAt (H:Hp) (a:Addr):Prop:=∃ts:List Addr,H a=some (.lst (ts.map V.ref))/\ts.length<=25/\∀t∈ts,∃c n:Nat,H t=some (.tup [.str (T [c]),.int (n:Int)])/\1<=n/\n<=300
def TAt (m:Nat) (H:Hp) (a:Addr):Prop:=∃ts:List Addr,H a=some (.lst (ts.map V.ref))/\ts.length<=m/\∀t∈ts,∃x y:List Nat,H t=some (.tup [.str (T x),.str (T y)])/\x.length<=1/\y.length<=2500
theorem Zdr:∀rs:List (Nat×Nat),rs.length<=(wr rs).length
 |[]=>Nat.le_refl _
 |a::r=>by
  have:=Zdr r
  rw [ZcM,length_cons,length_cons,length_append,length_cons]
  omega
theorem ZdF {a b:List (Nat×Nat)} (h:wr a=wr b):a=b:=by
 obtain ⟨tail,e1,e2⟩:=Zbb (done:=b) (rs:=a) (qP:=[]) (by rw [append_nil];exact h)
 cases tail with
 |nil=>rw [e1,append_nil]
 |cons x y=>rw [ZcM] at e2;cases e2
theorem ZpI {s:Nat} {l w0 b w2:List Nat} (p:Prt s l w0 b w2):w0.length<=l.length/\w2.length<=l.length:=by
 rcases p with ⟨_,h,_⟩|⟨_,_,h1,h2⟩
 ·rw [h,length_append,length_cons]
  omega
 ·rw [h1,h2]
  exact ⟨Nat.le_refl _,Nat.zero_le _⟩
theorem ZlI {l pre t:List Nat} {c:Nat} {r:Int} (hl:l=pre++c::t)
 (h:(r= -1/\∀v,pre.length+1<=v->l[v]?≠some 59)\/∃k:Nat,r=k/\pre.length+1<=k/\l[k]?=some 59/\∀v,pre.length+1<=v->v<k->l[v]?≠some 59):
 (r= -1/\∀x∈t,x≠59)\/∃w t',t=w++59::t'/\(∀x∈w,x≠59)/\r=((pre.length+1+w.length:Nat):Int):=by
 have at_:∀v:Nat,l[pre.length+1+v]?=t[v]?:=fun v=>by
  rw [hl,List.getElem?_append_right (by omega),show pre.length+1+v-pre.length=v+1 by omega,List.getElem?_cons_succ]
 rcases h with ⟨e,h⟩|⟨k,e,h1,h2,h3⟩
 ·refine .inl ⟨e,fun x hx w=>?_⟩
  obtain ⟨v,hv⟩:=List.mem_iff_getElem?.mp hx
  exact h (pre.length+1+v) (by omega) (by rw [at_,hv,w])
 ·have ek:k=pre.length+1+(k-(pre.length+1)):=by omega
  rw [ek,at_] at h2
  rcases Zny h2 (fun v hv w=>h3 (pre.length+1+v) (by omega) (by omega) (by rw [at_,w])) with ⟨_,e1,e2⟩|⟨w,_⟩
  ·refine .inr ⟨_,_,e1,e2,?_⟩
   have lt:=(List.getElem?_eq_some_iff.mp h2).1
   rw [e,length_take]
   omega
  ·cases w
def Tu (H:Hp) (us:List Addr):Prop:=∀t∈us,∃x y:List Nat,H t=some (.tup [.str (T x),.str (T y)])/\x.length<=1/\y.length<=2000
theorem Zk8 {l:List Nat} {h h':Nat} {rs rs':List (Nat×Nat)} (k:Pk l h rs) (k':Pk l h' rs'):h=h'/\rs=rs':=by
 obtain ⟨e1,e2⟩:=Yx (Zbx h) (Zbx h') (k.2.2.2.symm.trans k'.2.2.2)
 exact ⟨ZeJ e1,ZdF e2⟩
end LP
namespace L2
open PySem PySem.Spec PyProof.Rows
theorem Jo:entryFor table "dict.update.loop"=some Builtin.«dict.update.loop»:=entryFor_of_tree (by kernel_rfl)
theorem zL:plainId "dict.update.loop"=true:=by decide +kernel
def Zjx (vs:List (Key×Value)) (ps:List (Key×Value)):List (Key×Value):=ps.foldl (fun acc p=>stored acc p.1 p.2) vs
section
variable {prog:Program} {w:World} {A:Around} {R:Result->Shared->Prop} {I o D:Addr} {its:List Value} {ps:List (Key×Value)}
theorem Zim (vs:List (Key×Value)) (k:Key) (u:Value):(stored vs k u).length<=vs.length+1:=by
 unfold stored
 split
 ·rw [length_map];omega
 ·rw [length_append,length_singleton];omega
end
def Zbt (ps:List (Key×V)) (acc:List (Key×V)):List (Key×V):=ps.foldl (fun acc p=>Zah acc p.1 p.2) acc
theorem KV.fill:∀{ps:List (Key×V)} {us:List (Key×Value)} {acc:List (Key×V)} {bcc:List (Key×Value)},KV ps us->KV acc bcc->KV (Zbt ps acc) (Zjx bcc us)
 |_,_,_,_,.nil,h=>h
 |p::ps,q::us,_,_,.cons e t,h=>by
  obtain ⟨e1,e2⟩:=e
  show KV (Zbt ps (Zah _ p.1 p.2)) (Zjx (stored _ q.1 q.2) us)
  refine KV.fill t ?_
  rw [<-e1]
  exact KV.put h _ e2
theorem ZhQ:∀(ps:List (Key×V)) (acc:List (Key×V)),(Zbt ps acc).length<=acc.length+ps.length
 |[],acc=>Nat.le_refl _
 |p::ps,acc=>by
  have h1:=ZhQ ps (Zah acc p.1 p.2)
  have h2:=ZdM acc p.1 p.2
  rw [length_cons]
  show (Zbt ps (Zah acc p.1 p.2)).length<=_
  omega
def ZAJ (H:Hp) (m:Addr) (ds:List Nat) (f:Nat->Nat):Prop:=∃ts:List Addr,H m=some (.lst (ts.map V.ref))/\ts.length=ds.length/\∀(j:Nat) t d,ts[j]?=some t->ds[j]?=some d->H t=some (.tup [.str (T [d]),.int (f d:Nat)])
def fsM (a m:Addr) (g:Int):List (Str×V):=[("held",.ref a),("gap",.int g),("marks",.ref m)]
def ZxZ (H:Hp) (ms:List Addr) (ds cs:List Nat) (h:Nat) (g:Int):Prop:=∀(k:Nat) mk,ms[k]?=some mk->ZAJ H mk ds fun d=>((zV cs h).take ((k:Int) * g).toNat).count d
def ZBo (C CL:Addr) (H:Hp) (x:Addr) (cs:List Nat) (h:Nat) (g:Int):Prop:=∃dx a m ms ds,H x=some (.ins C dx (fsM a m g))/\ZbE CL H a cs h/\1<=g/\(ds.Nodup/\(∀c,c∈ds↔c∈cs)/\ds.Pairwise (· <=·))/\H m=some (.lst (ms.map V.ref))/\(ms.length:Int)=((cs.length:Int)+1)/g+1/\ZxZ H ms ds cs h g
theorem ZyJ {X:Cx} {K:PySem.W.Frag} (hK:X.K=K):OpR X (compareOp .In) (rIn K false):=by
 subst hK
 exact Zlf
structure ZBr (xa:Addr) (P:Program) (w:World) (K:PySem.W.Frag) (tg:Expr) (J:It) (fp:List Addr) (it:Addr) (tn:Nat->Heap->Prop):Prop where
 mem:it∈fp
 obj:∀i h,tn i h->∀b∈fp,∃o,h.get? b=some o/\∀v,o.data≠ .cell v
 keep:∀i h h',tn i h->(∀b∈fp,∀o,h.get? b=some o->h'.get? b=some o)->tn i h'
 item:∀(X:Cx),X.prog=P->X.w=w->X.K=K->X.A.handled=some (.ref xa)->∀(i:Nat) (Za:List (Addr×Obj)) (s:Shared) (σ:St) (H:Hp) (E:Value->Shared->Prop),Inv X Za σ H s->(∀b∈fp,Zcu X Za H b)->tn i s.heap->J.go i H->
  wpAny (model P w) X.A (pyNext (.ref it)) (fun r s1=>∃u,r=some u/\wpAny (model P w) X.A (letOwnedTupleGo tg (.ref it) u) (fun _ s2=>∃x H',Inv X Za σ H' s2/\Z2 x u/\J.yld i H x H'/\tn (i+1) s2.heap/\∀b∈fp,H' b=none) E s1) E s
 done:∀(X:Cx),X.prog=P->X.w=w->X.K=K->X.A.handled=some (.ref xa)->∀(i:Nat) (Za:List (Addr×Obj)) (s:Shared) (σ:St) (H:Hp) (E:Value->Shared->Prop),Inv X Za σ H s->(∀b∈fp,Zcu X Za H b)->tn i s.heap->J.stop i H->wpAny (model P w) X.A (pyNext (.ref it)) (fun r s1=>r=none/\Inv X Za σ H s1) E s
 self:∀(A:Around) (i:Nat) (s:Shared) (Q:Value->Shared->Prop) (E:Value->Shared->Prop),tn i s.heap->Q (.ref it) s->wpAny (model P w) A (pyIter (.ref it)) Q E s
end L2
namespace LP
def ahd (p:List Nat):List (List Nat)->List (List Nat)
 |[]=>[p]
 |w::r=>(p++w)::r
def spl (c:Nat):Nat->List Nat->List (List Nat)
 |_,[]=>[[]]
 |0,x::r=>[x::r]
 |n+1,x::r=>if x=c then []::spl c n r else ahd [x] (spl c (n+1) r)
def ZcW (c:Nat):Nat->List Nat->List Nat
 |_,[]=>[]
 |i,x::r=>if x=c then i::ZcW c (i+1) r else ZcW c (i+1) r
theorem ZeZ (c n:Nat):∀l,spl c n l≠[]
 |[]=>by simp [spl]
 |x::r=>by
  cases n with
  |zero=>simp [spl]
  |succ n=>
   unfold spl
   split
   ·simp
   ·cases spl c (n+1) r<;>simp [ahd]
theorem ZpM (p q:List Nat):∀{ws:List (List Nat)},ws≠[]->ahd p (ahd q ws)=ahd (p++q) ws
 |[],h=>absurd rfl h
 |w::r,_=>by simp [ahd]
theorem Zer (c:Nat):∀l,spl c 0 l=[l]
 |[]=>rfl
 |_::_=>rfl
theorem Zaq {c:Nat} (n:Nat) (r:List Nat):∀{p:List Nat},c∉p->spl c (n+1) (p++c::r)=p::spl c n r
 |[],_=>by simp [spl]
 |x::p,h=>by
  have hx:x≠c:=fun e=>h (by simp [e])
  have hp:c∉p:=fun e=>h (by simp [e])
  show (if x=c then _ else ahd [x] (spl c (n+1) (p++c::r)))=_
  rw [if_neg hx,Zaq n r hp]
  rfl
theorem ZeH {c:Nat} (n:Nat):∀{p:List Nat},c∉p->spl c n p=[p]
 |[],_=>rfl
 |x::p,h=>by
  cases n with
  |zero=>rfl
  |succ n=>
   have hx:x≠c:=fun e=>h (by simp [e])
   have hp:c∉p:=fun e=>h (by simp [e])
   show (if x=c then _ else ahd [x] (spl c (n+1) p))=_
   rw [if_neg hx,ZeH (n+1) hp]
   rfl
theorem ZcF (c:Nat):∀(n:Nat) (l:List Nat),(spl c n l).length<=l.length+1
 |n,[]=>by simp [spl]
 |0,x::r=>by simp [spl]
 |n+1,x::r=>by
  unfold spl
  split
  ·have:=ZcF c n r
   simp only [length_cons]
   omega
  ·have:=ZcF c (n+1) r
   have e:(ahd [x] (spl c (n+1) r)).length=(spl c (n+1) r).length:=by
    have:=ZeZ c (n+1) r
    cases h:spl c (n+1) r with
    |nil=>exact absurd h this
    |cons w ws=>rfl
   rw [e]
   simp only [length_cons]
   omega
end LP
namespace L2
open PySem PySem.Spec PyProof.Rows Builtin.Str LP
theorem ZcN (z:Str) (c:Nat) (lim:Nat):∀(l:List Nat) (i:Nat) (acc:Array Nat) (free:Nat),(L z).drop i=l->free<=i->i<=z.length->
 (forIn (List.range' i (l.length+1)) (acc,free) (StrLaws.occBody z ⟨#[c]⟩ z.length lim)).run.fst.toList=acc.toList++(ZcW c i l).take (lim-acc.size)
 |[],i,acc,free,hl,hf,hi=>by
  rw [length_nil,List.range'_succ,List.forIn_cons]
  unfold StrLaws.occBody
  have hn:(L z)[i]?=none:=by
   have:=congrArg (·[0]?) hl
   simpa using this
  rw [if_neg (fun h=>by
   have:=(StrLaws.subAt_one z c i).mp ⟨h.1.2,h.2⟩
   have h2:(L z)[i]?=some c:=this
   rw [hn] at h2
   cases h2)]
  show (forIn (List.range' (i+1) 0) (acc,free) (StrLaws.occBody z ⟨#[c]⟩ z.length lim)).run.fst.toList=_
  simp [ZcW]
 |x::r,i,acc,free,hl,hf,hi=>by
  have hx:(L z)[i]?=some x:=by
   have:=congrArg (·[0]?) hl
   simpa using this
  have hlt:i<z.length:=by
   have:=(List.getElem?_eq_some_iff.mp hx).1
   rw [Z8] at this
   exact this
  have hr:(L z).drop (i+1)=r:=by
   rw [<-List.drop_drop,hl]
   rfl
  rw [length_cons,List.range'_succ,List.forIn_cons]
  unfold StrLaws.occBody
  by_cases e:x=c
  ·by_cases hs:acc.size<lim
   ·have st:=(StrLaws.subAt_one z c i).mpr (show (L z)[i]?=some c by rw [hx,e])
    rw [if_pos ⟨⟨⟨hs,hf⟩,st.1⟩,st.2⟩]
    show (forIn (List.range' (i+1) (r.length+1)) (acc.push i,i+1) (StrLaws.occBody z ⟨#[c]⟩ z.length lim)).run.fst.toList=_
    rw [ZcN z c lim r (i+1) _ _ hr (Nat.le_refl _) hlt]
    rw [show ZcW c i (x::r)=i::ZcW c (i+1) r from if_pos e,Array.size_push]
    obtain ⟨d,hd⟩:∃d,lim-acc.size=d+1:=⟨lim-acc.size-1,by omega⟩
    rw [hd,show lim-(acc.size+1)=d by omega,List.take_succ_cons]
    simp
   ·rw [if_neg (fun h=>hs h.1.1.1)]
    show (forIn (List.range' (i+1) (r.length+1)) (acc,free) (StrLaws.occBody z ⟨#[c]⟩ z.length lim)).run.fst.toList=_
    rw [ZcN z c lim r (i+1) _ _ hr (Nat.le_succ_of_le hf) hlt,show lim-acc.size=0 by omega]
    simp
  ·rw [if_neg (fun h=>by
    have:=(StrLaws.subAt_one z c i).mp ⟨h.1.2,h.2⟩
    have h2:(L z)[i]?=some c:=this
    rw [hx] at h2
    exact e (Option.some.inj h2))]
   show (forIn (List.range' (i+1) (r.length+1)) (acc,free) (StrLaws.occBody z ⟨#[c]⟩ z.length lim)).run.fst.toList=_
   rw [ZcN z c lim r (i+1) _ _ hr (Nat.le_succ_of_le hf) hlt]
   rw [show ZcW c i (x::r)=ZcW c (i+1) r from if_neg e]
theorem Zqs (z:Str) (c lim:Nat):occurrences z ⟨#[c]⟩ 0 z.length lim=(ZcW c 0 (L z)).take lim:=by
 rw [StrLaws.occ_eq]
 have:=ZcN z c lim (L z) 0 #[] 0 rfl (Nat.le_refl _) (Nat.zero_le _)
 rw [Z8] at this
 simpa using this
theorem Zdp (z:Str) (c:Nat):∀(l:List Nat) (n:Nat) (A P:List Nat),L z=A++P++l->StrLaws.partsFrom z 1 A.length ((ZcW c (A.length+P.length) l).take n)=(ahd P (spl c n l)).map T
 |[],n,A,P,h=>by
  have e:strSub z A.length z.length=T P:=by
   rw [ZeG,<-Z8,List.take_length,h]
   simp
  show StrLaws.partsFrom z 1 A.length (([]:List Nat).take n)=_
  rw [List.take_nil]
  show [strSub z A.length z.length]=_
  rw [e]
  simp [spl,ahd]
 |x::r,0,A,P,h=>by
  rw [List.take_zero,Zer]
  show [strSub z A.length z.length]=_
  rw [ZeG,<-Z8,List.take_length,h]
  simp [ahd]
 |x::r,n+1,A,P,h=>by
  by_cases e:x=c
  ·rw [show ZcW c (A.length+P.length) (x::r)=(A.length+P.length)::ZcW c (A.length+P.length+1) r from if_pos e,show spl c (n+1) (x::r)=[]::spl c n r from if_pos e,List.take_succ_cons]
   show strSub z A.length (A.length+P.length)::StrLaws.partsFrom z 1 (A.length+P.length+1) _=_
   have ih:=Zdp z c r n (A++P++[x]) [] (by rw [h];simp)
   simp only [length_append,length_singleton,length_nil,Nat.add_zero] at ih
   rw [ih,ZeG,h]
   have e2:List.drop A.length (List.take (A.length+P.length) (A++P++x::r))=P:=by
    rw [List.take_append_of_le_length (by simp),List.take_of_length_le (by simp)]
    simp
   rw [e2]
   cases hs:spl c n r with
   |nil=>exact absurd hs (ZeZ c n r)
   |cons w ws=>simp [ahd]
  ·rw [show ZcW c (A.length+P.length) (x::r)=ZcW c (A.length+P.length+1) r from if_neg e,show spl c (n+1) (x::r)=ahd [x] (spl c (n+1) r) from if_neg e]
   have ih:=Zdp z c r (n+1) A (P++[x]) (by rw [h];simp)
   rw [length_append,length_singleton,<-Nat.add_assoc] at ih
   rw [ih,ZpM _ _ (ZeZ c (n+1) r)]
theorem Zdo (z:Str) (c lim:Nat):partsBetween z (occurrences z ⟨#[c]⟩ 0 z.length lim) 1=(spl c lim (L z)).map T:=by
 rw [StrLaws.partsBetween_eq,Zqs]
 have:=Zdp z c (L z) lim [] [] rfl
 simp only [length_nil,Nat.add_zero] at this
 rw [this]
 cases hs:spl c lim (L z) with
 |nil=>exact absurd hs (ZeZ c lim (L z))
 |cons w ws=>simp [ahd]
theorem ZeV {z:Str} {c lim:Nat} (h:(occurrences z ⟨#[c]⟩ 0 z.length lim).isEmpty=true):(spl c lim (L z)).map T=[z]:=by
 rw [<-Zdo,List.isEmpty_iff.mp h]
 show [strSub z 0 z.length]=_
 rw [ZeG,<-Z8,List.take_length,List.drop_zero,T_L]
theorem Zdq:∀(xs:List Str) (tk:Nat),ZD (xs.map V.str) (strsFrom tk xs)
 |[],_=>.nil
 |x::r,tk=>.cons ⟨tk,rfl⟩ (Zdq r (tk+1))
theorem Zl7 (z:Str):1<=Builtin.Str.strKind z:=by
 unfold Builtin.Str.strKind
 split
 ·exact Nat.le_refl _
 ·split<;>decide
section
variable {X:Cx}
def Zpr:V->List V->Hp->VK->Prop:=fun x vs H Q=>match x,vs with
 | .str z,[.str y]=>∃c,L y=[c]/\c<256/\(L z).length+2<=sizeLine/\∀a,H a=none->Q (.ref a) (upd H a (.lst ((spl c ((L z).length+1) (L z)).map fun w=>V.str (T w))))
 | .str z,[.str y,.int k]=>∃c,L y=[c]/\c<256/\(L z).length+2<=sizeLine/\0<=k/\k<1000/\∀a,H a=none->Q (.ref a) (upd H a (.lst ((spl c k.toNat (L z)).map fun w=>V.str (T w))))
 |_,_=>False
theorem Zgh:MtR X "str.split" Zpr:=by
 intro Za s σ H x vs v us Q I rx rv h
 have fin:∀(c lim:Nat) (z:Str) (tk:Nat) (its:List Value),(L z).length+2<=sizeLine->ZD (((spl c lim (L z)).map T).map V.str) its->(∀a,H a=none->Q (.ref a) (upd H a (.lst ((spl c lim (L z)).map fun w=>V.str (T w)))))->
  EP X Za σ Q (.ref s.heap.objs.size) {s with toks:=tk,heap:=s.heap.push {cls:=.type "list",data:=.seq its.toArray} }:=fun c lim z tk its hz r q=>by
  have hn:=I.hok.fresh (Nat.le_refl s.heap.objs.size)
  have em:((spl c lim (L z)).map T).map V.str=(spl c lim (L z)).map fun w=>V.str (T w):=by rw [map_map];rfl
  have hl:=ZcF c lim (L z)
  refine ⟨.ref s.heap.objs.size,_,I.laid (o:=.lst ((spl c lim (L z)).map fun w=>V.str (T w))) (t':=tk) (fun b o e=>Heap.get?_push_of_some _ e) (Nat.le_refl _) ⟨by rw [length_map];omega,its,0,em▸r,Heap.get?_push_size _ rfl⟩,rfl,q _ hn⟩
 have kd:∀(z:Str) (c:Nat),c<256->z.length≠0->(decide (z.length<(⟨#[c]⟩:Str).length) || decide (Builtin.Str.strKind z<Builtin.Str.strKind ⟨#[c]⟩))=false:=fun z c hc hz=>by
  have h1:Builtin.Str.strKind ⟨#[c]⟩=1:=by
   unfold Builtin.Str.strKind
   rw [if_pos (by simpa using hc)]
  have h2:=Zl7 z
  rw [h1,show (⟨#[c]⟩:Str).length=1 from rfl,decide_eq_false (by omega),decide_eq_false (by omega)]
  rfl
 have mt:∀(z:Str) (c:Nat),z.length=0->(decide (z.length<(⟨#[c]⟩:Str).length) || decide (Builtin.Str.strKind z<Builtin.Str.strKind ⟨#[c]⟩))=true:=fun z c hz=>by
  rw [hz]
  rfl
 have one:∀(z:Str) (c lim:Nat) (t:Tok),(spl c lim (L z)).map T=[z]->ZD (((spl c lim (L z)).map T).map V.str) [.str z t]:=fun z c lim t e=>by
  rw [e]
  exact .cons ⟨t,rfl⟩ .nil
 have nil:∀(z:Str) (c lim:Nat),z.length=0->(spl c lim (L z)).map T=[z]:=fun z c lim hz=>by
  have e:L z=[]:=by
   rw [<-Z8] at hz
   exact length_eq_zero_iff.mp hz
  rw [e]
  have:=T_L z
  rw [e] at this
  simp [spl,this]
 unfold Zpr at h
 split at h
 ·rename_i z y
  obtain ⟨c,hy,hc,hz,q⟩:=h
  obtain ⟨t,rfl⟩:=rx
  obtain ⟨u,rfl,t',rfl⟩:=JA rv
  have hy2:=Zc2 hy
  subst hy2
  have hl:=ZcF c ((L z).length+1) (L z)
  by_cases h0:z.length=0
  ·exact call_meets F.slot_str_split (typeIs_str _ _ _) F.entry_str_split (F.args_str_split_2 _ _) (meets_str_split_cannot_occur z ⟨#[c]⟩ t t' (mt z c h0)) (fin c _ z _ _ hz (one z c _ t (nil z c _ h0)) q)
  ·cases hf:(occurrences z ⟨#[c]⟩ 0 z.length (z.length+1)).isEmpty with
   |true=>exact call_meets F.slot_str_split (typeIs_str _ _ _) F.entry_str_split (F.args_str_split_2 _ _) (meets_str_split_not_found z ⟨#[c]⟩ t t' (kd z c hc h0) rfl hf) (fin c _ z _ _ hz (one z c _ t (by rw [Z8];exact ZeV hf)) q)
   |false=>
    have e:=Zdo z c (z.length+1)
    refine call_meets F.slot_str_split (typeIs_str _ _ _) F.entry_str_split (F.args_str_split_2 _ _) (meets_str_split_sep z ⟨#[c]⟩ t t' (kd z c hc h0) rfl hf (by rw [<-Z8];omega) (by show (partsBetween z _ 1).length<=_;rw [e,length_map,<-Z8];omega)) ?_
    exact fin c _ z _ _ hz (by show ZD _ (strsFrom _ (partsBetween z _ 1));rw [e,Z8];exact Zdq _ _) q
 ·rename_i z y k
  obtain ⟨c,hy,hc,hz,k0,k1,q⟩:=h
  obtain ⟨t,rfl⟩:=rx
  obtain ⟨u,u2,rfl,⟨t',rfl⟩,⟨t2,rfl⟩⟩:=ZdL rv
  have hy2:=Zc2 hy
  subst hy2
  have hk:(decide (k < -(2 ^ 63:Int)) || decide (k ≥ 2 ^ 63))=false:=by
   rw [decide_eq_false (by omega),decide_eq_false (by omega)]
   rfl
  have hlim:limitOf z k=k.toNat:=if_neg (by omega)
  have hl:=ZcF c k.toNat (L z)
  by_cases h0:z.length=0
  ·exact call_meets F.slot_str_split (typeIs_str _ _ _) F.entry_str_split (F.args_str_split_3 _ _ _) (meets_str_split_max_cannot_occur z ⟨#[c]⟩ k t t' t2 hk (mt z c h0)) (fin c _ z _ _ hz (one z c _ t (nil z c _ h0)) q)
  ·cases hf:(occurrences z ⟨#[c]⟩ 0 z.length (limitOf z k)).isEmpty with
   |true=>exact call_meets F.slot_str_split (typeIs_str _ _ _) F.entry_str_split (F.args_str_split_3 _ _ _) (meets_str_split_max_not_found z ⟨#[c]⟩ k t t' t2 hk (kd z c hc h0) rfl hf) (fin c _ z _ _ hz (one z c _ t (by rw [hlim] at hf;exact ZeV hf)) q)
   |false=>
    have e:=Zdo z c (limitOf z k)
    have e':partsBetween z (occurrences z ⟨#[c]⟩ 0 z.length (limitOf z k)) (⟨#[c]⟩:Str).length=(spl c k.toNat (L z)).map T:=by rw [hlim] at e ⊢;exact e
    refine call_meets F.slot_str_split (typeIs_str _ _ _) F.entry_str_split (F.args_str_split_3 _ _ _) (meets_str_split_sep_max z ⟨#[c]⟩ k t t' t2 hk (kd z c hc h0) rfl hf (by rw [<-Z8];omega) (by rw [e',length_map];omega)) ?_
    exact fin c _ z _ _ hz (by rw [e'];exact Zdq _ _) q
 ·exact h.elim
end
section
variable {X:Cx}
def ZmQ (r1 r2:R2) (ta tb tc:TE):TE:=fun σ H Q=>ta σ H fun x H1=>tb σ H1 fun y H2=>r1 x y H2 fun z H3=>match z with
 | .bl k=>if k=true then tc σ H3 fun u H4=>r2 y u H4 Q else Q (.bl false) H3
 |_=>False
theorem Zlc {op1 op2:CmpOp} {r1 r2:R2} {a b c:Expr} {ta tb tc:TE} {pos:Pos} (h1:OpR X (compareOp op1) r1) (h2:OpR X (compareOp op2) r2) (ha:PE X a ta) (hb:PE X b tb) (hc:PE X c tc) (hm:lastMarks [op1,op2] [b,c]=false:=by with_unfolding_all rfl):PE X (.Compare a [op1,op2] [b,c] pos) (ZmQ r1 r2 ta tb tc):=by
 intro Za s σ H Q I h
 refine Compare_chain (thn (ha Za s σ H _ I h) fun v s1 ⟨x,H1,I1,rx,q1⟩=>chain_link (thn (hb Za s1 σ H1 _ I1 q1) fun u s2 ⟨y,H2,I2,ry,q2⟩=>thn (h1 Za s2 σ H2 x y v u _ I2 rx ry q2) fun k s3 ⟨z,H3,I3,rz,q3⟩=>?_)) hm
 cases z with
 |bl k=>
  cases rz
  refine wpAny_truthy_bool ?_
  cases k with
  |true=>exact chain_last (thn (hc Za s3 σ H3 _ I3 q3) fun t s4 ⟨w',H4,I4,rw',q4⟩=>h2 Za s4 σ H4 y w' u t _ I4 ry rw' q4)
  |false=>exact ⟨.bl false,H3,I3,rfl,q3⟩
 |_=>exact False.elim q3
def Zwb:List DictEntry->List (Str×V)->Prop
 |[],[]=>True
 |e::es,p::ps=>(∃t,e.key=.str p.1 t)/\Z2 p.2 e.val/\Zwb es ps
 |_,_=>False
def ZcA:List (Str×V)->Str->Option V
 |[],_=>none
 |p::r,z=>if p.1=z then some p.2 else ZcA r z
structure Zfg (K:PySem.W.Frag) (P:Params) (a:Addr) (kvs:List (Str×V)):Prop where
 ex:∃es n,K.lookup a=some ⟨.type "dict",none,.dict es n,#[]⟩/\PySem.W.KeysLit P es.toList/\Zwb es.toList kvs
 ns:(a==sysModules)=false
theorem Zf2 {z:Str}:∀{es:List DictEntry} {kvs:List (Str×V)},Zwb es kvs->(∃u v,(es.find? fun d=>Value.isStrOf z d.key).map (·.val)=some u/\ZcA kvs z=some v/\Z2 v u)\/((es.find? fun d=>Value.isStrOf z d.key).map (·.val)=none/\ZcA kvs z=none)
 |[],[],_=>.inr ⟨rfl,rfl⟩
 |e::es,p::ps,⟨⟨t,hk⟩,hv,r⟩=>by
  unfold ZcA
  rw [List.find?_cons,hk]
  by_cases q:p.1=z
  ·have:Value.isStrOf z (.str p.1 t)=true:=by
    subst q
    simp [Value.isStrOf]
   rw [this,if_pos q]
   exact .inl ⟨_,_,rfl,rfl,hv⟩
  ·have:Value.isStrOf z (.str p.1 t)=false:=by
    simp [Value.isStrOf,q]
   rw [this,if_neg q]
   exact Zf2 r
 |[],_::_,h=>h.elim
 |_::_,[],h=>h.elim
theorem Zfg.map {P:Program} {w:World} {K:PySem.W.Frag} {a:Addr} {kvs:List (Str×V)} {h:Heap} (D:Zfg K w.params a kvs) (KX:K.In h):∃f,h.MapOf (strKind P w) a f/\∀z,(∃u v,f z=some u/\ZcA kvs z=some v/\Z2 v u)\/(f z=none/\ZcA kvs z=none):=by
 obtain ⟨es,n,hl,hk,he⟩:=D.ex
 refine ⟨_,PySem.W.mapOf_K (prog:=P) KX hl hk,fun z=>?_⟩
 have:=Zf2 (z:=z) he
 obtain ⟨l⟩:=es
 unfold findBy
 rw [List.find?_toArray]
 exact this
def ZgG (neg:Bool) (A:Addr) (kvs:List (Str×V)):R2:=fun x y H Q=>match x,y with
 | .str z,.ref a=>a=A/\Q (.bl (neg !=(ZcA kvs z).isSome)) H
 |_,_=>False
def Zdi (A:Addr) (kvs:List (Str×V)):R2:=fun x y H Q=>match x,y with
 | .ref a,.str z=>a=A/\∃v,ZcA kvs z=some v/\Q v H
 |_,_=>False
theorem Zl4 {A:Addr} {kvs:List (Str×V)} (D:Zfg X.K X.w.params A kvs):OpR X (compareOp .NotIn) (ZgG true A kvs):=by
 intro Za s σ H x y v u Q I rx ry h
 unfold ZgG at h
 split at h
 ·rename_i z a
  obtain ⟨rfl,q⟩:=h
  obtain ⟨t,rfl⟩:=rx
  cases ry
  obtain ⟨f,hm,hf⟩:=D.map (P:=X.prog) (w:=X.w) I.kIn
  refine wpAny_notIn_of (strKind_is X.prog X.w z t) D.ns hm ⟨.bl _,H,I.kept (t':=s.toks+1) fun b o e=>e,rfl,?_⟩
  have e:(f z).isSome=(ZcA kvs z).isSome:=by
   rcases hf z with ⟨_,_,e1,e2,_⟩|⟨e1,e2⟩<;>rw [e1,e2]<;>rfl
  rw [e]
  simpa using q
 ·exact h.elim
theorem ZoR {A:Addr} {kvs:List (Str×V)} (D:Zfg X.K X.w.params A kvs):IxR X (Zdi A kvs):=by
 intro value slice Za s σ H x y v u Q I rx ry h hs
 unfold Zdi at h
 split at h
 ·rename_i a z
  obtain ⟨rfl,v',hv,q⟩:=h
  obtain ⟨t,rfl⟩:=ry
  cases rx
  obtain ⟨f,hm,hf⟩:=D.map (P:=X.prog) (w:=X.w) I.kIn
  rcases hf z with ⟨u',v2,e1,e2,r⟩|⟨_,e2⟩
  ·rw [hv] at e2
   cases e2
   exact tail_any hm.typeIs slot_dict_getitem.lookup (wpAny_getItem_of (strKind_is X.prog X.w z t) hm e1 ⟨v',H,I.kept (t':=s.toks+1) fun b o e=>e,r,q⟩) hs
  ·rw [hv] at e2
   cases e2
 ·exact h.elim
structure ZqV (K:PySem.W.Frag) (a:Addr) (xs:List V):Prop where
 ex:∃(o:Obj) (its:Array Value) (n:Nat),K.lookup a=some o/\o.cls=.type "tuple"/\o.data=.seq its n/\its.size<=sizeLine/\ZD xs its.toList
theorem ZqV.sq {K:PySem.W.Frag} {a:Addr} {xs:List V} (T:ZqV K a xs) (H:Hp):SqT K H a xs:=.inr T.ex
structure ZvE (K:PySem.W.Frag) (P:Params) (mg:Str->Option Value) (a:Addr) (kns:List (Str×Str)):Prop where
 ex:∃kvs,Zfg K P a kvs/\∀z nm,(kns.find? fun p=>p.1=z).map (·.2)=some nm->∃f,mg nm=some (.ref f)/\ZcA kvs z=some (.ref f)
def ZzM (kns:List (Str×Str)) (G:Str->Sp->Prop) (F:St->XK) (tk:TE) (t:TA):TE:=fun σ H Q=>tk σ H fun kv H1=>match kv with
 | .str z=>∃nm sp,(kns.find? fun p=>p.1=z).map (·.2)=some nm/\G nm sp/\t σ H1 fun vs H2=>sp vs H2 Q (F σ)
 |_=>False
theorem Zp0 {F:St->XK} {A:Addr} {kns:List (Str×Str)} {G:Str->Sp->Prop} {k:Nat} {x:Str} {ke e:Expr} {es:List Expr} {tk:TE} {t:TA} {p p' pos:Pos} (T:Tk X F) (D:ZvE X.K X.w.params X.mg A kns) (hA:X.mg x=some (.ref A)) (hG:∀nm sp,G nm sp->∃j ps,j<=k/\FnX X.prog X.w X.K X.mg X.base j nm ps sp) (hr:YD k X.A) (hk:PE X ke tk) (ha:PA X (e::es) t) (hs:Zj1 ke) (hg:Gl X x:=by rfl) (hdb:(x==("__debug__":Str))=false:=by decide)
 (he:starEach (e::es) X.env=(false,eval e X.env)::starEach es X.env:=by rfl) (hpl:(backTo pos (starEach es X.env)).any (·.1)=false:=by rfl)
 (hev:eval (.Call (.Subscript (.Name x p) ke p') (e::es) [] pos) X.env=(do callWith pos (<-eval (.Subscript (.Name x p) ke p') X.env) [] (backTo pos (starEach (e::es) X.env)) (backToKw pos (keywordEach [] X.env))):=by rfl):
 PE X (.Call (.Subscript (.Name x p) ke p') (e::es) [] pos) (ZzM kns G F tk t):=by
 intro Za s σ H Q I h
 obtain ⟨kvs,D,hD⟩:=D.ex
 refine Call_ ?_ hev
 have hsub:PE X (.Subscript (.Name x p) ke p') (tOp (Zdi A kvs) (tC (.ref A)) tk):=ZX (ZoR D) (Jt (v:=.ref A) hg hA rfl hdb) hk hs
 have h0:∃Q0:VK,tk σ H Q0/\∀kv H1,Q0 kv H1->match kv with
  | .str z=>∃nm sp,(kns.find? fun p=>p.1=z).map (·.2)=some nm/\G nm sp/\t σ H1 fun vs H2=>sp vs H2 Q (F σ)
  |_=>False:=⟨_,h,fun _ _ z=>z⟩
 have hk':PE X ke (fun σ H Q=>∃Q0:VK,tk σ H Q0/\∀v H',Q0 v H'->Q v H'):=hk.imp fun σ H Q h=>h
 have hsub:PE X (.Subscript (.Name x p) ke p') (tOp (Zdi A kvs) (tC (.ref A)) (fun σ H Q=>∃Q0:VK,tk σ H Q0/\∀v H',Q0 v H'->Q v H')):=ZX (ZoR D) (Jt (v:=.ref A) hg hA rfl hdb) hk' hs
 refine thn (hsub Za s σ H (fun v H1=>∃nm sp f,v=.ref f/\X.mg nm=some (.ref f)/\G nm sp/\t σ H1 fun vs H2=>sp vs H2 Q (F σ)) I ?_) fun v s1 ⟨v',H1,I1,rv,nm,sp,f,ev,hf,hg1,q1⟩=>?_
 ·obtain ⟨Q0,a1,a2⟩:=h0
  refine ⟨Q0,a1,fun kv H1 q=>?_⟩
  have q:=a2 kv H1 q
  cases kv with
  |str z=>
   obtain ⟨nm,sp,e1,e2,e3⟩:=q
   obtain ⟨f,f1,f2⟩:=hD z nm e1
   exact ⟨rfl,_,f2,nm,sp,f,rfl,f1,e2,e3⟩
  |_=>exact q.elim
 ·subst ev
  cases rv
  obtain ⟨j,ps,hj,G1⟩:=hG nm sp hg1
  obtain ⟨f',fd,G1,hm,hkp,hb⟩:=G1.ex
  rw [hf] at hm
  cases hm
  refine callWith_K (h₀:=X.base) I1.ok.mod.kin hkp (thn (ha pos Za s1 σ H1 _ I1 q1) fun us s2 ⟨vs,H2,I2,r,q⟩=>⟨I2.kIn,?_⟩) he hpl
  have hl:us.length=ps.length:=by rw [<-r.length];exact G1.len _ _ _ _ q
  refine wpAny_call (codeAny_mono (G1.run X.A X.stack s2 H2 ⟨us,[]⟩ us vs Q (F σ) (hr.mono hj) I2.env0 (by simpa using hb s2 us I2.kIn (by simpa using hl)) r q) fun r s' hq=>?_)
  cases r with
  |error e=>exact T.pass Za σ H2 s2 e s' I2 hq
  |ok fl=>
   cases fl with
   |ret u=>exact I2.after hq
   |next=>exact False.elim hq
   |brk=>exact False.elim hq
   |cont=>exact False.elim hq
end
structure ZBb (P:Program) (w:World) (K:PySem.W.Frag) (mg:Str->Option Value) (base:Heap) (k:Nat) (f:Addr) (fd:FuncData) (ps:List Str) (sp:Addr->Sp):Prop where
 len:∀xa vs H Q E,sp xa vs H Q E->vs.length=ps.length
 run:∀(A:Around) (outer:List Env) (s:Shared) (H:Hp) (args:Args) (us:List Value) (vs:List V) (Q:VK) (xa:Addr),A.handled=some (.ref xa)->ZrE k A->ZgC P w K mg base A outer s H->BindsTo s fd args (ps.zip us)->ZD vs us->sp xa vs H Q E0->
  codeAny (model P w) A (.call (.ref f) args) (CR CX0 outer P w H s Q E0) s
structure FnZ (P:Program) (w:World) (K:PySem.W.Frag) (mg:Str->Option Value) (base:Heap) (k:Nat) (x:Str) (ps:List Str) (sp:Addr->Sp):Prop where
 ex:∃f fd,ZBb P w K mg base k f fd ps sp/\mg x=some (.ref f)/\keepIn K (.ref f)=true/\J8 K fd ps []
def Zhi (h:Heap) (z TI TO:Addr):Prop:=∃(t:Addr) (b:Bool) (o:Obj),h.get? z=some {cls:=.type "zip",dict:=none,data:=.fields #[rawInt t,.bool b,.bool false,.ref TI,.ref TO],slots:=#[]}/\h.get? t=some o/\t≠z
section
variable {prog:Program} {w:World} {A:Around} {E:Value->Shared->Prop} {s:Shared} {z TI TO i1 i2 l1 l2:Addr} {k1 k2:Nat} {xs ys:Array Value}
theorem Zj0 {Q:Bool->Shared->Prop} (hz:Zhi s.heap z TI TO) (hQ:∀h',Zhi h' z TI TO->Heap.SameBut z s.heap h'->Q false {s with heap:=h'}):wpAny (model prog w) A (Builtin.SmallTypes.ownedTupleIsFree (.ref z)) Q E s:=by
 obtain ⟨t,b,o,g,ht,ne⟩:=hz
 unfold Builtin.SmallTypes.ownedTupleIsFree
 refine wpAny_bind (wpAny_field g rfl (x:=rawInt t) rfl ?_)
 show wpAny _ _ (loadIfAlive ((t:Int).toNat) >>=_) _ _ _
 rw [Int.toNat_natCast]
 refine wpAny_bind ?_
 have la:∀(Q':Option Obj->Shared->Prop),Q' (s.heap.get? t) s->wpAny (model prog w) A (loadIfAlive t) Q' E s:=fun Q' q Γ p hΓ=>by
  show Sem.wp _ _ (Sem.loadIfAlive t Sem.pure) _ _ _ _
  rw [Sem.wp_loadIfAlive,Sem.wp_pure]
  exact q
 refine la _ ?_
 rw [ht]
 show wpAny _ _ (field (.ref z) 1 >>=_) _ _ _
 refine wpAny_bind (wpAny_field g rfl (x:=.bool b) rfl ?_)
 cases b with
 |true=>
  refine wpAny_pure (hQ s.heap ⟨t,true,o,g,ht,ne⟩ ⟨rfl,fun _ _=>rfl⟩)
 |false=>
  show wpAny _ _ (setField (.ref z) 1 (.bool true) >>=_) _ _ _
  refine wpAny_bind (wpAny_setField_rec g (by simp) fun h' hz' hs'=>wpAny_pure (hQ h' ⟨t,true,o,hz',(hs'.2 t ne).trans ht,ne⟩ hs'))
theorem ZqK {x y:Value} {Q:Option Value->Shared->Prop} (D:ZipApart z TI TO i1 i2 l1 l2) (hz:Zhi s.heap z TI TO) (hTI:IsPair s.heap TI (.ref i1) (.ref i2))
 (h1:s.heap.IsListIter i1 l1 k1) (h2:s.heap.IsListIter i2 l2 k2) (hl1:s.heap.IsList l1 xs) (hl2:s.heap.IsList l2 ys) (hx:xs[k1]?=some x) (hy:ys[k2]?=some y)
 (hQ:∀h',Zhi h' z TI TO->h'.IsListIter i1 l1 (k1+1)->h'.IsListIter i2 l2 (k2+1)->IsPair h' s.heap.objs.size x y->(∀c o,c≠z->c≠i1->c≠i2->s.heap.get? c=some o->h'.get? c=some o)->Q (some (.ref s.heap.objs.size)) {s with heap:=h'}):
 wpAny (model prog w) A (pyNext (.ref z)) Q E s:=by
 have hT:s.TypeIs (.ref z) "zip":=by
  obtain ⟨t,b,o,g,_⟩:=hz
  exact ⟨_,g,rfl⟩
 obtain ⟨t,b,o,g,ht,ne⟩:=id hz
 unfold pyNext
 refine wpAny_bind (wpAny_attempt (wpAny_callSpecial?_slot (name:=Str.ofString "__next__") hT F.slot_zip_next (wpAny_call_entry F.slot_zip_next hT F.entry_zip_next ?_ (F.args_zip_next_1 _))))
 show wpAny _ _ (field (.ref z) 2 >>=_) _ _ _
 refine wpAny_bind (wpAny_field g rfl (x:=.bool false) rfl ?_)
 show wpAny _ _ (field (.ref z) 3 >>=_) _ _ _
 refine wpAny_bind (wpAny_field g rfl (x:=.ref TI) rfl (wpAny_bind (wpAny_seqItems hTI rfl ?_)))
 show wpAny _ _ (Builtin.SmallTypes.ownedTupleIsFree (.ref z) >>=_) _ _ _
 refine wpAny_bind (Zj0 hz fun ha hza hsa=>?_)
 rw [if_neg Bool.false_ne_true]
 dsimp only
 refine wpAny_bind ?_
 rw [<-Array.forIn_toList]
 show wpAny _ _ (forIn [Value.ref i1,Value.ref i2] _ _) _ _ _
 rw [List.forIn_cons]
 refine wpAny_bind (wpAny_bind (wpAny_holding ?_))
 show wpAny _ _ (Builtin.SmallTypes.nextOf (.ref i1) >>=_) _ _ _
 refine wpAny_bind (wpAny_nextOf_list_item (h1.extBut hsa.extBut D.i1z) (hl1.extBut hsa.extBut D.l1z) hx fun hb b1 hsb=>wpAny_pure (wpAny_pure ?_))
 dsimp only
 rw [List.forIn_cons]
 refine wpAny_bind (wpAny_bind (wpAny_holding ?_))
 show wpAny _ _ (Builtin.SmallTypes.nextOf (.ref i2) >>=_) _ _ _
 refine wpAny_bind (wpAny_nextOf_list_item ((h2.extBut hsa.extBut D.i2z).extBut hsb.extBut D.i12.symm) ((hl2.extBut hsa.extBut D.l2z).extBut hsb.extBut D.l2i1) hy fun hc c1 hsc=>wpAny_pure (wpAny_pure ?_))
 dsimp only
 rw [List.forIn_nil]
 refine wpAny_pure ?_
 dsimp only
 refine wpAny_bind (wpAny_newTuple ?_ (by show 2<=sizeLine;rw [sizeLine_eq];decide))
 have esz:hc.objs.size=s.heap.objs.size:=by rw [hsc.1,hsb.1,hsa.1]
 refine wpAny_pure ⟨_,rfl,wpAny_pure ?_⟩
 have up:∀c o,c≠i1->c≠i2->ha.get? c=some o->hc.get? c=some o:=fun c o n1 n2 e=>(hsc.2 c n2).trans ((hsb.2 c n1).trans e)
 have hzc:Zhi hc z TI TO:=by
  obtain ⟨t',b',o',g',ht',ne'⟩:=hza
  have:∃o2,hc.get? t'=some o2:=by
   by_cases n1:t'=i1
   ·subst n1
    obtain ⟨oo,e,_⟩:=b1
    exact ⟨oo,(hsc.2 _ D.i12).trans e⟩
   ·by_cases n2:t'=i2
    ·subst n2
     obtain ⟨oo,e,_⟩:=c1
     exact ⟨oo,e⟩
    ·exact ⟨o',up t' o' n1 n2 ht'⟩
  obtain ⟨o2,e2⟩:=this
  exact ⟨t',b',o2,up z _ D.i1z.symm D.i2z.symm g',e2,ne'⟩
 have r:=hQ (hc.push {cls:=.type "tuple",data:=.seq #[x,y]}) ?_ ?_ ?_ ?_ ?_
 ·rw [<-esz] at r
  exact r
 ·obtain ⟨t',b',o',g',ht',ne'⟩:=hzc
  exact ⟨t',b',o',Heap.get?_push_of_some _ g',Heap.get?_push_of_some _ ht',ne'⟩
 ·exact (b1.at fun o e=>(hsc.2 _ D.i12).trans e).at fun o e=>Heap.get?_push_of_some _ e
 ·exact c1.at fun o e=>Heap.get?_push_of_some _ e
 ·rw [<-esz]
  exact Heap.get?_push_size _ rfl
 ·exact fun c o n0 n1 n2 e=>Heap.get?_push_of_some _ (up c o n1 n2 ((hsa.2 c n0).trans e))
theorem ZrZ {Q:Option Value->Shared->Prop} (hh:A.handled=none) (D:ZipApart z TI TO i1 i2 l1 l2) (hz:Zhi s.heap z TI TO) (hTI:IsPair s.heap TI (.ref i1) (.ref i2))
 (h1:s.heap.IsListIter i1 l1 k1) (hl1:s.heap.IsList l1 xs) (hx:xs[k1]?=none)
 (hQ:∀h',(∀c o,c≠z->c≠i1->c≠i2->s.heap.get? c=some o->h'.get? c=some o)->Q none {s with heap:=h'}):
 wpAny (model prog w) A (pyNext (.ref z)) Q E s:=by
 have hT:s.TypeIs (.ref z) "zip":=by
  obtain ⟨t,b,o,g,_⟩:=hz
  exact ⟨_,g,rfl⟩
 obtain ⟨t,b,o,g,ht,ne⟩:=id hz
 unfold pyNext
 refine wpAny_bind (wpAny_attempt (wpAny_callSpecial?_slot (name:=Str.ofString "__next__") hT F.slot_zip_next (wpAny_call_entry F.slot_zip_next hT F.entry_zip_next ?_ (F.args_zip_next_1 _))))
 show wpAny _ _ (field (.ref z) 2 >>=_) _ _ _
 refine wpAny_bind (wpAny_field g rfl (x:=.bool false) rfl ?_)
 show wpAny _ _ (field (.ref z) 3 >>=_) _ _ _
 refine wpAny_bind (wpAny_field g rfl (x:=.ref TI) rfl (wpAny_bind (wpAny_seqItems hTI rfl ?_)))
 show wpAny _ _ (Builtin.SmallTypes.ownedTupleIsFree (.ref z) >>=_) _ _ _
 refine wpAny_bind (Zj0 hz fun ha hza hsa=>?_)
 rw [if_neg Bool.false_ne_true]
 dsimp only
 refine wpAny_bind ?_
 rw [<-Array.forIn_toList]
 show wpAny _ _ (forIn [Value.ref i1,Value.ref i2] _ _) _ _ _
 rw [List.forIn_cons]
 refine wpAny_bind (wpAny_bind (wpAny_holding ?_))
 show wpAny _ _ (Builtin.SmallTypes.nextOf (.ref i1) >>=_) _ _ _
 refine wpAny_bind (wpAny_nextOf_list_end hh (h1.extBut hsa.extBut D.i1z) (hl1.extBut hsa.extBut D.l1z) hx fun hb e hsb he=>?_)
 obtain ⟨oe,hoe,hce⟩:=he
 refine wpAny_bind (wpAny_isInstance (T:="StopIteration") (b:=true) ⟨oe,hoe,hce⟩ isSubtype_stop ?_)
 exact wpAny_pure (hQ _ fun c o n0 n1 n2 q=>hsb _ _ n1 ((hsa.2 c n0).trans q))
def Zsk (h:Heap) (z TI TO:Addr):Prop:=(IsZip h z TI TO .none/\∃a b,IsPair h TO a b)\/Zhi h z TI TO
theorem Zqp {x y:Value} {Q:Option Value->Shared->Prop} (D:ZipApart z TI TO i1 i2 l1 l2) (hz:Zsk s.heap z TI TO) (hTI:IsPair s.heap TI (.ref i1) (.ref i2))
 (h1:s.heap.IsListIter i1 l1 k1) (h2:s.heap.IsListIter i2 l2 k2) (hl1:s.heap.IsList l1 xs) (hl2:s.heap.IsList l2 ys) (hx:xs[k1]?=some x) (hy:ys[k2]?=some y)
 (hQ:∀h',Zhi h' z TI TO->h'.IsListIter i1 l1 (k1+1)->h'.IsListIter i2 l2 (k2+1)->IsPair h' s.heap.objs.size x y->(∀c o,c≠z->c≠TO->c≠i1->c≠i2->s.heap.get? c=some o->h'.get? c=some o)->Q (some (.ref s.heap.objs.size)) {s with heap:=h'}):
 wpAny (model prog w) A (pyNext (.ref z)) Q E s:=by
 rcases hz with ⟨g,a,b,gT⟩|hz
 ·have lz:=Heap.lt_size g
  exact wpAny_pyNext_zip_item D g hTI gT h1 h2 hl1 hl2 hx hy fun h' a1 a2 a3 a4 a5 a6 a7=>hQ h' ⟨_,false,_,a1,a5,Nat.ne_of_gt lz⟩ a3 a4 a5 a7
 ·exact ZqK D hz hTI h1 h2 hl1 hl2 hx hy fun h' a1 a2 a3 a4 a5=>hQ h' a1 a2 a3 a4 fun c o n0 _ n1 n2 e=>a5 c o n0 n1 n2 e
theorem ZsH {Q:Option Value->Shared->Prop} (hh:A.handled=none) (D:ZipApart z TI TO i1 i2 l1 l2) (hz:Zsk s.heap z TI TO) (hTI:IsPair s.heap TI (.ref i1) (.ref i2))
 (h1:s.heap.IsListIter i1 l1 k1) (h2:s.heap.IsListIter i2 l2 k2) (hl1:s.heap.IsList l1 xs) (hl2:s.heap.IsList l2 ys) (hx:xs[k1]?=none)
 (hQ:∀h',(∀c o,c≠z->c≠TO->c≠i1->c≠i2->s.heap.get? c=some o->h'.get? c=some o)->Q none {s with heap:=h'}):
 wpAny (model prog w) A (pyNext (.ref z)) Q E s:=by
 rcases hz with ⟨g,a,b,gT⟩|hz
 ·exact wpAny_pyNext_zip_end hh D g hTI gT h1 h2 hl1 hl2 (.inl hx) hQ
 ·exact ZrZ hh D hz hTI h1 hl1 hx fun h' a=>hQ h' fun c o n0 _ n1 n2 e=>a c o n0 n1 n2 e
theorem Zmc {R:Result->Shared->Prop} {Dd:Addr} {its ist:List Value} {ps:List (Key×Value)} (hh:A.handled=none) (D:ZipApart z TI TO i1 i2 l1 l2) (nz:Dd≠z) (nTI:Dd≠TI) (nTO:Dd≠TO) (n1:Dd≠i1) (n2:Dd≠i2) (nl1:Dd≠l1) (nl2:Dd≠l2)
 (e1:its.length=ps.length) (e2:ist.length=ps.length) (hz:ps.length<=sizeLine) (hk:∀(j:Nat) u (p:Key×Value),its[j]?=some u->ps[j]?=some p->ZdN p.1 u=true) (hv:∀(j:Nat) v (p:Key×Value),ist[j]?=some v->ps[j]?=some p->v=p.2):
 ∀(n i:Nat) (s:Shared) (vs:List (Key×Value)),ps.length-i=n->i<=ps.length->vs.length<=i->Zsk s.heap z TI TO->IsPair s.heap TI (.ref i1) (.ref i2)->s.heap.IsListIter i1 l1 i->s.heap.IsListIter i2 l2 i->s.heap.IsList l1 its.toArray->s.heap.IsList l2 ist.toArray->s.heap.DictOf (z4 prog w) Dd vs->
  (∀h' tk,(∀c o,c≠Dd->c≠z->c≠TO->c≠i1->c≠i2->s.heap.get? c=some o->h'.get? c=some o)->h'.DictOf (z4 prog w) Dd (Zjx vs (ps.drop i))->R (.ok (.ret .none)) {s with heap:=h',toks:=tk})->
  codeAny (model prog w) A (.builtin "dict.update.loop" ⟨[.ref Dd,.ref z,rawInt (i:Int),.none],[]⟩) R s:=by
 intro n
 induction n with
 |zero=>
  intro i s vs hn hi hvs zs pTI q1 q2 g1 g2 dd fin
  refine codeAny_builtin Jo ?_
  rw [Around.under_plainId zL _]
  show wpAny _ A.in1 (pyNext (.ref z) >>=_) _ _ s
  refine wpAny_bind (ZsH hh D zs pTI q1 q2 g1 g2 (by simp;omega) fun h' eb=>wpAny_bind (wpAny_pure (wpAny_pure (fin h' s.toks (fun c o _ c1 c2 c3 c4 e=>eb c o c1 c2 c3 c4 e) ?_))))
  rw [List.drop_of_length_le (by omega)]
  obtain ⟨ob,es,ep,e,r⟩:=dd
  exact ⟨ob,es,ep,eb _ _ nz nTO n1 n2 e,r⟩
 |succ n ih=>
  intro i s vs hn hi hvs zs pTI q1 q2 g1 g2 dd fin
  have lt:i<ps.length:=by omega
  have hx:its[i]?=some (its[i]'(by omega)):=List.getElem?_eq_getElem _
  have hy:ist[i]?=some (ist[i]'(by omega)):=List.getElem?_eq_getElem _
  have ep:ps[i]?=some ps[i]:=List.getElem?_eq_getElem _
  have ku:=hk i _ _ hx ep
  have ev:=hv i _ _ hy ep
  generalize its[i]'(by omega)=u at hx ku
  generalize ist[i]'(by omega)=v at hy ev
  subst ev
  generalize hp:ps[i]=p at ep ku hy
  refine codeAny_builtin Jo ?_
  rw [Around.under_plainId zL _]
  show wpAny _ A.in1 (pyNext (.ref z) >>=_) _ _ s
  refine wpAny_bind (Zqp D zs pTI q1 q2 g1 g2 (x:=u) (y:=p.2) (by simpa using hx) (by simpa using hy) fun h' a1 a2 a3 a4 a5=>?_)
  show wpAny _ A.in1 (holding [Value.ref s.heap.objs.size] _ >>=_) _ _ _
  refine wpAny_bind (wpAny_holding (wpAny_bind ?_))
  have hpi:∀(Q:List Value->Shared->Prop) (E:Value->Shared->Prop),Q [u,p.2] {s with heap:=h'}->wpAny (model prog w) A.in1 (Builtin.Dict.pairItems (Value.ref s.heap.objs.size)) Q E {s with heap:=h'}:=fun Q E q=>by
   have hT:({s with heap:=h'}:Shared).TypeIs (.ref s.heap.objs.size) "tuple":=⟨_,a4,rfl⟩
   unfold Builtin.Dict.pairItems
   refine wpAny_bind (wpAny_typeOf hT ?_)
   rw [if_pos (by decide)]
   exact wpAny_bind (wpAny_seqItems a4 rfl (wpAny_pure q))
  refine wpAny_tryCatch (hpi _ _ ?_)
  show wpAny _ _ (holding [u,p.2] (dictSet Dd u p.2)) _ _ _
  have dd':h'.DictOf (z4 prog w) Dd vs:=by
   obtain ⟨ob,es,epp,e,r⟩:=dd
   exact ⟨ob,es,epp,a5 _ _ nz nTO n1 n2 e,r⟩
  refine wpAny_holding (wpAny_dictSet_pairs (s:= {s with heap:=h'}) (knd:=z4 prog w) ku dd' (fun h2 dd2 sb2=>?_) (by omega))
  refine wpAny_pure ⟨plainId_quiet zL _,?_⟩
  have er:rawInt ((i:Int)+1)=rawInt ((i+1:Nat):Int):=by rw [Int.natCast_add];rfl
  rw [er]
  have keep:∀c o,c≠Dd->c≠z->c≠TO->c≠i1->c≠i2->s.heap.get? c=some o->h2.get? c=some o:=fun c o c0 c1 c2 c3 c4 e=>(sb2.2 c c0).trans (a5 c o c1 c2 c3 c4 e)
  refine ih (i+1) {s with heap:=h2,toks:=s.toks+1} _ (by omega) (by omega) (by have:=Zim vs p.1 p.2;omega) (.inr ?_) ?_ (a2.at fun o e=>(sb2.2 _ (Ne.symm n1)).trans e) (a3.at fun o e=>(sb2.2 _ (Ne.symm n2)).trans e) (g1.at fun o e=>keep _ o (Ne.symm nl1) D.l1z D.l1TO D.l1i1 D.l1i2 e) (g2.at fun o e=>keep _ o (Ne.symm nl2) D.l2z D.l2TO D.l2i1 D.l2i2 e) dd2 fun h3 tk keep3 dd3=>?_
  ·obtain ⟨t,b,o,w1,w2,w3⟩:=a1
   by_cases c0:t=Dd
   ·subst c0
    obtain ⟨ob,es,epp,e,r⟩:=dd2
    exact ⟨t,b,ob,(sb2.2 _ (Ne.symm nz)).trans w1,e,w3⟩
   ·exact ⟨t,b,o,(sb2.2 _ (Ne.symm nz)).trans w1,(sb2.2 _ c0).trans w2,w3⟩
  ·exact keep _ _ (Ne.symm nTI) D.TIz D.TITO D.TIi1 D.TIi2 pTI
  ·refine fin h3 tk (fun c o c0 c1 c2 c3 c4 e=>keep3 c o c0 c1 c2 c3 c4 (keep c o c0 c1 c2 c3 c4 e)) ?_
   rw [List.drop_eq_getElem_cons lt,hp]
   exact dd3
end
theorem Zfs:typeLookup (.type "zip") "keys"=pure none:=am_miss_of_fast (by decide +kernel)
theorem ZeC:typeLookup (.type "zip") "__getattr__"=pure none:=by rw [typeLookup_type,builtinLookup_eq_fast];kernel_rfl
theorem Zch:entryFor table "zip.__getattribute__"=some Builtin.«object.__getattribute__»:=entryFor_alias (id':="object.__getattribute__") (by kernel_rfl) (by decide +kernel) (by decide +kernel) (by kernel_rfl)
theorem Zhu (z:Addr) (ws:Array Value) (name:Str) (u:Tok) (hmiss:typeLookup (.type "zip") name=pure none) (hname:(["__module__","__name__","__qualname__","__doc__","__annotations__"]:List Str).contains name=false) (hsz:name.length+100<=sizeLine):
 Meets (Builtin.«object.__getattribute__» ⟨[.ref z,.str name u],[]⟩) (fun A R s=>s.heap.get? z=some {cls:=.type "zip",dict:=none,data:=.fields ws,slots:=#[]}/\raisesAttr (.ref z) name A R s):=
 Meets.of_wp fun prog w A R s hs=>by
  obtain ⟨hp,g,d,tk,os⟩:=s;obtain ⟨hx,hs⟩:=hs
  have hT:(⟨hp,g,d,tk,os⟩:Shared).TypeIs (.ref z) "zip":=⟨_,hx,rfl⟩
  unfold Builtin.«object.__getattribute__»
  repeat (any_goals (first|assumption|wp_step))
  simp only [hname,Bool.false_eq_true,if_false];repeat (any_goals (first|assumption|wp_step))
  exact wpAny_raiseAttrError hs.1 hs.2 (attrMsg_fits (by decide +kernel) hsz)
theorem Zfv {prog:Program} {w:World} {A:Around} {E:Value->Shared->Prop} {s:Shared} {z:Addr} {ws:Array Value} {Q:Option Value->Shared->Prop}
 (hx:s.heap.get? z=some {cls:=.type "zip",dict:=none,data:=.fields ws,slots:=#[]}) (hA:A.handled=none) (h:∀h' tk,(∀b ob,s.heap.get? b=some ob->h'.get? b=some ob)->Q none {s with heap:=h',toks:=tk}):
 wpAny (model prog w) A (getAttr? (.ref z) "keys") Q E s:=by
 obtain ⟨hp,g,d,tk,os⟩:=s
 have hT:∀tk',(⟨hp,g,d,tk',os⟩:Shared).TypeIs (.ref z) "zip":=fun _=>⟨_,hx,rfl⟩
 have f1:=sub_AttributeError;have f3:=F.slot_zip_getattribute.lookup;have f4:=F.slot_zip_getattribute.bind (.ref z);have f5:=ZeC
 unfold getAttr? getAttrBy? getAttrBy
 repeat (any_goals (first|assumption|exact hT _|((with_reducible show wpAny _ _ (call (Value.builtin "zip.__getattribute__") _ _) _ _ _);refine call_meets F.slot_zip_getattribute (hT _) Zch (F.args_zip_getattribute_2 _ _) (Zhu z ws _ _ Zfs (by decide +kernel) (by size_fits)) ⟨hx,hA,fun h' tk' e hx'=>?_⟩)|wp_step))
 obtain ⟨t',u',he⟩:=hx'.there;show wpAny _ _ (getattributeRaised _ _ _ _ _ _ _) _ _ _
 unfold getattributeRaised;repeat (any_goals (first|assumption|wp_step))
 exact h _ _ hx'.keeps
section
variable {prog:Program} {w:World} {A:Around} {E:Value->Shared->Prop} {s:Shared} {z TI TO i1 i2 l1 l2:Addr} {its ist:List Value} {ps:List (Key×Value)} {Q:Value->Shared->Prop}
theorem ZgA (hh:A.handled=none) (D:ZipApart z TI TO i1 i2 l1 l2) (hz:IsZip s.heap z TI TO .none) (hTI:IsPair s.heap TI (.ref i1) (.ref i2)) (hTO:∃a b,IsPair s.heap TO a b) (h1:s.heap.IsListIter i1 l1 0) (h2:s.heap.IsListIter i2 l2 0) (hl1:s.heap.IsList l1 its.toArray) (hl2:s.heap.IsList l2 ist.toArray)
 (e1:its.length=ps.length) (e2:ist.length=ps.length) (hsz:ps.length<=sizeLine) (hk:∀(j:Nat) u (p:Key×Value),its[j]?=some u->ps[j]?=some p->ZdN p.1 u=true) (hv:∀(j:Nat) v (p:Key×Value),ist[j]?=some v->ps[j]?=some p->v=p.2)
 (fin:∀h' tk,(∀c o,c≠z->c≠TO->c≠i1->c≠i2->s.heap.get? c=some o->h'.get? c=some o)->h'.DictOf (z4 prog w) s.heap.objs.size (Zjx [] ps)->Q (.ref s.heap.objs.size) {s with heap:=h',toks:=tk}):
 wpAny (model prog w) A (call (.type "dict") [.ref z]) Q E s:=by
 refine callType_codes (Q₁:=fun obj s₁=>obj=.ref s.heap.objs.size/\s₁= {s with heap:=s.heap.push {cls:=.type "dict",data:=.dict #[]} }) F.kt_called_dict (F.kt_typeCall_dict_1 _) F.entry_dict_init (kt_code_dict_new _ ⟨rfl,rfl⟩) ?_
 rintro obj s₁ ⟨rfl,rfl⟩
 have hnew:(s.heap.push {cls:=.type "dict",data:=.dict #[]}).DictOf (z4 prog w) s.heap.objs.size []:=Heap.DictOf.new s.heap
 have kp0:∀c o,s.heap.get? c=some o->(s.heap.push {cls:=.type "dict",data:=.dict #[]}).get? c=some o:=fun c o e=>Heap.get?_push_of_some _ e
 refine ⟨hnew.typeIs,F.args_dict_init_2 _ _,?_⟩
 unfold Builtin.«dict.__init__»
 refine wpAny_bind ?_
 unfold Builtin.Dict.selfAndRest
 refine wpAny_bind (wpAny_notOrdered_dict hnew.typeIs ?_)
 show wpAny _ _ (pure (s.heap.objs.size,[Value.ref z])) _ _ _
 refine wpAny_pure ?_
 show wpAny _ _ (Builtin.Dict.updateFrom "dict.__init__" s.heap.objs.size (.ref z) [] .none) _ _ _
 unfold Builtin.Dict.updateFrom
 refine wpAny_bind (wpAny_typeOf (show ({s with heap:=s.heap.push {cls:=.type "dict",data:=.dict #[]} }:Shared).TypeIs (.ref z) "zip" from ⟨_,kp0 _ _ hz,rfl⟩) ?_)
 rw [if_pos (by decide)]
 refine wpAny_bind (Zfv (s:= {s with heap:=s.heap.push {cls:=.type "dict",data:=.dict #[]} }) (kp0 _ _ hz) hh fun h1' tk1 keep1=>?_)
 rw [show (none:Option Value).isNone=true from rfl,if_pos rfl]
 refine wpAny_bind (wpAny_rule ?_)
 have keep0:∀c o,s.heap.get? c=some o->h1'.get? c=some o:=fun c o e=>keep1 c o (kp0 c o e)
 have dd1:h1'.DictOf (z4 prog w) s.heap.objs.size []:=by
  obtain ⟨ob,es,ep,e,r⟩:=hnew
  exact ⟨ob,es,ep,keep1 _ _ e,r⟩
 have ne:∀{b:Addr} {ob:Obj},s.heap.get? b=some ob->s.heap.objs.size≠b:=fun e=>Nat.ne_of_gt (Heap.lt_size e)
 obtain ⟨a,b,hTO⟩:=hTO
 refine wpAny_bind (wpAny_pyIter_zip (s:= {s with heap:=h1',toks:=tk1}) (keep0 _ _ hz) ?_)
 refine wpAny_pure ⟨plainId_quiet zL _,?_⟩
 have n1:s.heap.objs.size≠i1:=by obtain ⟨o,e,_⟩:=h1;exact ne e
 have n2:s.heap.objs.size≠i2:=by obtain ⟨o,e,_⟩:=h2;exact ne e
 have m1:s.heap.objs.size≠l1:=by obtain ⟨o,e,_⟩:=hl1;exact ne e
 have m2:s.heap.objs.size≠l2:=by obtain ⟨o,e,_⟩:=hl2;exact ne e
 refine Zmc (A:=A.in1) hh D (ne hz) (ne hTI) (ne hTO) n1 n2 m1 m2 e1 e2 hsz hk hv ps.length 0 {s with heap:=h1',toks:=tk1} [] rfl (Nat.zero_le _) (Nat.le_refl _) (.inl ⟨keep0 _ _ hz,a,b,keep0 _ _ hTO⟩) (keep0 _ _ hTI) (h1.at fun o e=>keep0 _ o e) (h2.at fun o e=>keep0 _ o e) (hl1.at fun o e=>keep0 _ o e) (hl2.at fun o e=>keep0 _ o e) dd1 fun h3 tk keep3 dd3=>?_
 exact ⟨rfl,fin h3 tk (fun c o c1 c2 c3 c4 e=>keep3 c o (Ne.symm (ne e)) c1 c2 c3 c4 (keep0 c o e)) dd3⟩
end
section
variable {X:Cx}
def Zd1 (ks:List (List Nat)) (xs:List V):List (Key×V):=(ks.map fun q=>(Sum.inr (T q):Key)).zip xs
theorem Zn3:∀(ks:List (List Nat)) (xs:List V) (us:List Value),ks.length=xs.length->ZD xs us->KV (Zd1 ks xs) ((ks.map fun q=>(Sum.inr (T q):Key)).zip us)
 |[],[],_,_,.nil=>.nil
 |k::ks,x::xs,u::us,h,.cons r rr=>.cons ⟨rfl,r⟩ (Zn3 ks xs us (Nat.succ.inj h) rr)
def Zi2 (K:PySem.W.Frag) (Q:VK):List V->Hp->Prop:=fun vs H1=>match vs with
 |[.ref a,.ref b]=>∃(ks:List (List Nat)) (xs:List V),SqL K H1 a (ks.map fun q=>V.str (T q))/\SqL K H1 b xs/\ks.length=xs.length/\∀d,H1 d=none->Q (.ref d) (upd H1 d (.dK (Zbt (Zd1 ks xs) [])))
 |_=>False
def ZnS (K:PySem.W.Frag) (ta:TA):TE:=fun σ H Q=>ta σ H (Zi2 K Q)
theorem Znz {K:PySem.W.Frag} {x y:Expr} {ta:TA} {p0 p p' pos:Pos} (hK:X.K=K) (hc:X.calm=true) (hmd:X.mg "dict"=none) (hmz:X.mg "zip"=none) (ha:PA X [x,y] ta)
 (hg0:Gl X "dict":=by rfl) (hgl:Gl X "zip":=by rfl) (hs:starEach [x,y] X.env=[(false,eval x X.env),(false,eval y X.env)]:=by rfl) (hs2:starEach [y] X.env=[(false,eval y X.env)]:=by rfl)
 (hsd:starEach [.Call (.Name "zip" p) [x,y] [] p'] X.env=[(false,eval (.Call (.Name "zip" p) [x,y] [] p') X.env)]:=by rfl):
 PE X (.Call (.Name "dict" p0) [.Call (.Name "zip" p) [x,y] [] p'] [] pos) (ZnS K ta):=by
 subst hK
 intro Za s σ H Q I h
 refine wpAny_Call_Name_kw (Zbo I hg0 hmd ZpZ ?_)
 refine PyProof.Rows.callWith_type1 ?_ hsd rfl
 rw [hsd]
 show wpAny _ _ (spliced ((false,_)::[])) _ _ s
 refine Calls.spliced_cons ?_
 refine Call_ (Zbo I hgl hmz ZwU (PyProof.Rows.callWith_type1 (thn (ha p' Za s σ H _ I h) fun us s1 ⟨vs,H1,I1,r1,q1⟩=>?_) (by rw [hs,hs2]) (by rw [hs2];rfl)))
 unfold Zi2 at q1
 split at q1
 ·rename_i a b
  obtain ⟨ks,xs,hq1,hq2,el,q⟩:=q1
  obtain ⟨u1,u2,rfl,r,r'⟩:=ZdL r1
  cases r
  cases r'
  obtain ⟨its,rv1,p1,z1⟩:=I1.list hq1
  obtain ⟨ist,rv2,p2,z2⟩:=I1.list hq2
  refine call_zip_2 p1.isList p2.isList fun h' k1 k2 k3 k4 k5 k6 k7=>?_
  refine Calls.spliced_nil ?_
  have la:a<s1.heap.objs.size:=by obtain ⟨o,q,_⟩:=p1.isList;exact Heap.lt_size q
  have lb:b<s1.heap.objs.size:=by obtain ⟨o,q,_⟩:=p2.isList;exact Heap.lt_size q
  have D:=Zks la lb
  have l1:=rv1.length
  have l2:=rv2.length
  rw [length_map] at l1
  have lp:((ks.map fun q=>(Sum.inr (T q):Key)).zip ist).length=ks.length:=by
   rw [List.length_zip,length_map]
   omega
  have hz2:h'.objs.size=s1.heap.objs.size+5:=k6
  refine ZgA (s:= {s1 with heap:=h'}) (ps:=(ks.map fun q=>(Sum.inr (T q):Key)).zip ist) (I1.ok.hd hc) D k1 k2 ⟨_,_,k3⟩ k4 k5 (p1.isList.at fun o e=>k7 _ o e) (p2.isList.at fun o e=>k7 _ o e) (by rw [lp];omega) (by rw [lp];omega) (by rw [lp];omega) (fun j u p g1 g2=>?_) (fun j v p g1 g2=>?_) fun h3 tk keep dd=>?_
  ·obtain ⟨g3,g4⟩:=List.getElem?_zip_eq_some.mp g2
   rw [List.getElem?_map] at g3
   obtain ⟨q',hq',e'⟩:=Option.map_eq_some_iff.mp g3
   have rk:Z2 (V.str (T q')) u:=by
    obtain ⟨u',hu,ru⟩:=rv1.get (i:=j) (x:=V.str (T q')) (by rw [List.getElem?_map,hq'];rfl)
    rw [g1] at hu
    cases hu
    exact ru
   rw [<-e']
   exact ZfN (P:=X.prog) (w:=X.w) (k:=Sum.inr (T q')) rk
  ·obtain ⟨g3,g4⟩:=List.getElem?_zip_eq_some.mp g2
   rw [g1] at g4
   exact Option.some.inj g4
  ·have lf:=ZhQ (Zd1 ks xs) []
   have lzk:(Zd1 ks xs).length=ks.length:=by
    unfold Zd1
    rw [List.length_zip,length_map]
    omega
   rw [length_nil] at lf
   have big:=I1.big
   have hsz:sizeLine=16777216:=sizeLine_eq
   have up:∀c o,s1.heap.get? c=some o->h3.get? c=some o:=fun c o e=>by
    have lc:=Heap.lt_size e
    have nk:∀k:Nat,c≠(s1.heap.objs.size+k:Nat):=fun k=>Nat.ne_of_lt (Nat.lt_of_lt_of_le lc (Nat.le_add_right _ _))
    exact keep c o (nk 4) (nk 3) (nk 0) (nk 1) (k7 c o e)
   have hsn:s1.heap.objs.size<=h'.objs.size:=by omega
   refine ⟨.ref h'.objs.size,_,I1.laid (a:=h'.objs.size) (o:=.dK (Zbt (Zd1 ks xs) [])) (t':=tk) up hsn ⟨by omega,beq_false_of_ne (Nat.ne_of_gt (Nat.lt_of_lt_of_le big hsn)),_,KV.fill (Zn3 ks xs ist el rv2) .nil,dd⟩,rfl,q _ (I1.hok.fresh hsn)⟩
 ·exact q1.elim
theorem Zky {K:PySem.W.Frag} {P:Params} {A:Addr} {kvs:List (Str×V)} (hK:X.K=K) (hP:X.w.params=P) (D:Zfg K P A kvs):OpR X (compareOp .NotIn) (ZgG true A kvs):=by
 subst hK hP
 exact Zl4 D
theorem ZxN {K:PySem.W.Frag} {P:Params} {A:Addr} {kvs:List (Str×V)} (hK:X.K=K) (hP:X.w.params=P) (D:Zfg K P A kvs):IxR X (Zdi A kvs):=by
 subst hK hP
 exact ZoR D
end
theorem Zqi {K:PySem.W.Frag} {P:Params} {mg:Str->Option Value} {a:Addr} {kvs:List (Str×V)} {kns:List (Str×Str)} (D:Zfg K P a kvs) (h:∀p∈kns,∃f,mg p.2=some (.ref f)/\ZcA kvs p.1=some (.ref f)):ZvE K P mg a kns:=by
 refine ⟨kvs,D,fun z nm e=>?_⟩
 obtain ⟨p,hp,rfl⟩:=Option.map_eq_some_iff.mp e
 obtain ⟨f,f1,f2⟩:=h p (List.mem_of_find?_eq_some hp)
 have hz:p.1=z:=by simpa using List.find?_some hp
 exact ⟨f,f1,hz▸f2⟩
end L2
namespace LD
open PySem L2 LP NumText
def cd (s:String):List Nat:=L (Str.ofString s)
theorem Zfa (s:String):T (cd s)=Str.ofString s:=T_L _
def ZhC:Nat->String
 |0=>"word name rest"
 |1=>"word name"
 |2=>"word name number"
 |3=>"word name number rest"
 |_=>"word name other"
def Zjd:List (String×Nat):=[("keep",0),("load",0),("ahead",0),("drop",1),("off",2),("text",1),("pack",1),("count",0),("find",0),("near",3),("often",2),("kinds",1),("lone",1),("cut",0),("both",4)]
def Yp:Nat->List (List Nat)
 |0=>[cd "word",cd "name",cd "rest"]
 |1=>[cd "word",cd "name"]
 |2=>[cd "word",cd "name",cd "number"]
 |3=>[cd "word",cd "name",cd "number",cd "rest"]
 |_=>[cd "word",cd "name",cd "other"]
def Zkb (w:List Nat):Option Nat:=(Zjd.find? fun p=>cd p.1=w).map (·.2)
theorem Zko (w:List Nat):∀l:List (String×Nat),ZcA (l.map fun p=>(Str.ofString p.1,V.str (Str.ofString (ZhC p.2)))) (T w)=((l.find? fun p=>cd p.1=w).map (·.2)).map fun i=>V.str (Str.ofString (ZhC i))
 |[]=>rfl
 |p::r=>by
  rw [map_cons,List.find?_cons]
  unfold ZcA
  by_cases h:cd p.1=w
  ·have e:Str.ofString p.1=T w:=by rw [<-h,Zfa]
   rw [if_pos e,decide_eq_true h]
   rfl
  ·have e:¬Str.ofString p.1=T w:=fun z=>h (by show L (Str.ofString p.1)=w;rw [z,L_T])
   rw [if_neg e,decide_eq_false h]
   exact Zko w r
theorem ZlV {w:List Nat} {i:Nat} (h:Zkb w=some i):i<5:=by
 obtain ⟨p,hp,rfl⟩:=Option.map_eq_some_iff.mp h
 have m:=List.mem_of_find?_eq_some hp
 have all:∀p∈Zjd,p.2<5:=by decide
 exact all p m
theorem Zly:∀i,i<5->spl 32 ((cd (ZhC i)).length+1) (cd (ZhC i))=Yp i:=by decide +kernel
theorem ZiI:∀i,i<5->(Yp i).length=if i=1 then 2 else if i=3 then 4 else 3:=by decide +kernel
def ZoS:Nat->List Nat
 |0=>cd "rest"
 |1=>cd "name"
 |2=>cd "number"
 |3=>cd "rest"
 |_=>cd "other"
theorem Zlp {i:Nat} (hi:i<5):atI ((Yp i).map fun w=>V.str (T w)) (-1)=some (V.str (T (ZoS i))):=by
 match i,hi with
 |0,_=>rfl
 |1,_=>rfl
 |2,_=>rfl
 |3,_=>rfl
 |4,_=>rfl
theorem ZiG:∀i,i<5->decide (ZoS i=cd "rest")=decide (i=0\/i=3):=by decide +kernel
def fw (r:List Nat):List Nat:=r.takeWhile fun c=>decide (c≠32)
theorem Zea {p:List Nat} (r:List Nat) (h:32∉p):fw (p++32::r)=p:=by
 unfold fw
 rw [List.takeWhile_append_of_pos (by intro c hc;simp;rintro rfl;exact h hc)]
 simp
theorem Zgr:∀{p:List Nat},32∉p->fw p=p
 |[],_=>rfl
 |x::p,h=>by
  have hx:x≠32:=fun e=>h (by simp [e])
  have hp:32∉p:=fun e=>h (by simp [e])
  unfold fw
  rw [List.takeWhile_cons_of_pos (by simpa using hx)]
  exact congrArg (x::·) (Zgr hp)
theorem Zy5 {r:List Nat} {k:Nat} (h:r[k]?=some 32) (hn:∀v,v<k->r[v]?≠some 32):fw r=r.take k:=by
 have e:r=r.take k++32::r.drop (k+1):=by
  have hk:=(List.getElem?_eq_some_iff.mp h)
  obtain ⟨hk,e⟩:=hk
  rw [<-e,<-List.drop_eq_getElem_cons hk,List.take_append_drop]
 rw [e]
 have nm:32∉r.take k:=fun m=>by
  obtain ⟨v,hv,ev⟩:=List.mem_iff_getElem.mp m
  rw [length_take] at hv
  rw [List.getElem_take] at ev
  exact hn v (by omega) (by rw [List.getElem?_eq_getElem (by omega),ev])
 rw [Zea _ nm]
 have hk:=(List.getElem?_eq_some_iff.mp h).1
 rw [List.take_append_of_le_length (by rw [length_take];omega),List.take_take,Nat.min_self]
theorem ZyP {r:List Nat} (hn:∀v:Nat,r[v]?≠some 32):fw r=r:=Zgr fun m=>by
 obtain ⟨v,hv,ev⟩:=List.mem_iff_getElem.mp m
 exact hn v (by rw [List.getElem?_eq_getElem hv,ev])
theorem Zeg (c:Nat):∀(n:Nat) (l:List Nat),∀w∈spl c n l,w.length<=l.length
 |n,[],w,h=>by
  have:w=[]:=by simpa [spl] using h
  simp [this]
 |0,x::r,w,h=>by
  have:w=x::r:=by simpa [spl] using h
  simp [this]
 |n+1,x::r,w,h=>by
  unfold spl at h
  split at h
  ·rcases mem_cons.mp h with rfl|h
   ·simp
   ·have:=Zeg c n r w h
    simp only [length_cons]
    omega
  ·cases hs:spl c (n+1) r with
   |nil=>exact absurd hs (ZeZ c (n+1) r)
   |cons v vs=>
    rw [hs] at h
    have ih:=Zeg c (n+1) r
    rw [hs] at ih
    rcases mem_cons.mp h with rfl|h
    ·have:=ih v (mem_cons_self ..)
     simp only [length_cons,cons_append,nil_append]
     omega
    ·have:=ih w (mem_cons_of_mem _ h)
     simp only [length_cons]
     omega
def J9 (i:Nat) (r:List Nat):List (List Nat):=if i=0\/i=3 then spl 32 ((Yp i).length-1) r else spl 32 (r.length+1) r
theorem Zp1 {i:Nat} {r w:List Nat} (h:w∈J9 i r):w.length<=r.length:=by
 unfold J9 at h
 split at h
 ·exact Zeg _ _ _ _ h
 ·exact Zeg _ _ _ _ h
theorem ZjD (i:Nat) (r:List Nat) (k:Nat):((J9 i r).getD k []).length<=r.length:=by
 rw [List.getD_eq_getElem?_getD]
 cases h:(J9 i r)[k]? with
 |none=>simp
 |some w=>exact Zp1 (List.mem_of_getElem? h)
def qO (r:List Nat) (i:Nat) (ws:List (List Nat)):Prop:=Zkb (fw r)=some i/\ws=J9 i r/\ws.length=(Yp i).length/\((i=2\/i=3)->ZbS (ws.getD 2 []))
theorem qO.uniq {r:List Nat} {i j:Nat} {ws vs:List (List Nat)} (a:qO r i ws) (b:qO r j vs):i=j/\ws=vs:=by
 have e:i=j:=Option.some.inj (a.1.symm.trans b.1)
 subst e
 exact ⟨rfl,a.2.1.trans b.2.1.symm⟩
abbrev ky (s:String):Key:=.inr (T (cd s))
def qz (i:Nat) (ws:List (List Nat)):List (Key×V):=(ky "word",V.str (T (ws.getD 0 [])))::(ky "name",V.str (T (ws.getD 1 [])))::
 (if i=0 then [(ky "rest",V.str (T (ws.getD 2 [])))] else if i=1 then [] else if i=2 then [(ky "number",V.int (digitsVal (ws.getD 2 []):Nat))] else if i=3 then [(ky "number",V.int (digitsVal (ws.getD 2 []):Nat)),(ky "rest",V.str (T (ws.getD 3 [])))] else [(ky "other",V.str (T (ws.getD 2 [])))])
def Jb (i:Nat) (ws:List (List Nat)):List (Key×V):=(ky "word",V.str (T (ws.getD 0 [])))::(ky "name",V.str (T (ws.getD 1 [])))::
 (if i=0 then [(ky "rest",V.str (T (ws.getD 2 [])))] else if i=1 then [] else if i=2 then [(ky "number",V.str (T (ws.getD 2 [])))] else if i=3 then [(ky "number",V.str (T (ws.getD 2 []))),(ky "rest",V.str (T (ws.getD 3 [])))] else [(ky "other",V.str (T (ws.getD 2 [])))])
def Zco:List String:=["word","name","rest","number","other"]
theorem ZeT:∀a∈Zco,∀b∈Zco,a≠b->cd a≠cd b:=by decide +kernel
theorem Zcw {a b:String} (h:cd a≠cd b):(ky a=ky b)=False:=by
 rw [eq_iff_iff,iff_false]
 intro z
 exact h (ZcI.mp (Sum.inr.inj z))
theorem Zk7 {i:Nat} (hi:i<5) {ws:List (List Nat)} (hl:ws.length=(Yp i).length):Zbt (Zd1 (Yp i) (ws.map fun w=>V.str (T w))) []=Jb i ws:=by
 have q:∀a∈Zco,∀b∈Zco,a≠b->(ky a=ky b)=False:=fun a ha b hb n=>Zcw (ZeT a ha b hb n)
 have q1:=q "word" (by decide) "name" (by decide) (by decide)
 have q2:=q "word" (by decide) "rest" (by decide) (by decide)
 have q3:=q "word" (by decide) "number" (by decide) (by decide)
 have q4:=q "word" (by decide) "other" (by decide) (by decide)
 have q5:=q "name" (by decide) "rest" (by decide) (by decide)
 have q6:=q "name" (by decide) "number" (by decide) (by decide)
 have q7:=q "name" (by decide) "other" (by decide) (by decide)
 have q8:=q "number" (by decide) "rest" (by decide) (by decide)
 match i,hi,ws,hl with
 |0,_,[a,b,c],_=>simp [Yp,Zd1,Zbt,Zah,Jb,q1,q2,q5]
 |1,_,[a,b],_=>simp [Yp,Zd1,Zbt,Zah,Jb,q1]
 |2,_,[a,b,c],_=>simp [Yp,Zd1,Zbt,Zah,Jb,q1,q3,q6]
 |3,_,[a,b,c,d],_=>simp [Yp,Zd1,Zbt,Zah,Jb,q1,q2,q3,q5,q6,q8]
 |4,_,[a,b,c],_=>simp [Yp,Zd1,Zbt,Zah,Jb,q1,q4,q7]
theorem Ze6 {i:Nat} (hi:i<5) (ws:List (List Nat)):z6 (Jb i ws) (ky "number")=if i=2\/i=3 then some (V.str (T (ws.getD 2 []))) else none:=by
 have q:∀a∈Zco,∀b∈Zco,a≠b->(ky a=ky b)=False:=fun a ha b hb n=>Zcw (ZeT a ha b hb n)
 have q1:=q "word" (by decide) "number" (by decide) (by decide)
 have q2:=q "name" (by decide) "number" (by decide) (by decide)
 have q3:=q "rest" (by decide) "number" (by decide) (by decide)
 have q4:=q "other" (by decide) "number" (by decide) (by decide)
 match i,hi with
 |0,_=>simp [Jb,z6,q1,q2,q3]
 |1,_=>simp [Jb,z6,q1,q2,q3]
 |2,_=>simp [Jb,z6,q1,q2,q3]
 |3,_=>simp [Jb,z6,q1,q2,q3]
 |4,_=>simp [Jb,z6,q1,q2,q4]
theorem Zij {i:Nat} (hi:i<5) (h2:i=2\/i=3) (ws:List (List Nat)):Zah (Jb i ws) (ky "number") (V.int (digitsVal (ws.getD 2 []):Nat))=qz i ws:=by
 have q:∀a∈Zco,∀b∈Zco,a≠b->(ky a=ky b)=False:=fun a ha b hb n=>Zcw (ZeT a ha b hb n)
 have q1:=q "word" (by decide) "number" (by decide) (by decide)
 have q2:=q "name" (by decide) "number" (by decide) (by decide)
 have q3:=q "rest" (by decide) "number" (by decide) (by decide)
 rcases h2 with rfl|rfl
 ·simp [Jb,qz,Zah,q1,q2,q3]
 ·simp [Jb,qz,Zah,q1,q2,q3]
theorem Zqq {i:Nat} (h2:¬(i=2\/i=3)) (ws:List (List Nat)):Jb i ws=qz i ws:=by
 unfold Jb qz
 rw [if_neg (c:=i=2) fun z=>h2 (.inl z),if_neg (c:=i=3) fun z=>h2 (.inr z),if_neg (c:=i=2) fun z=>h2 (.inl z),if_neg (c:=i=3) fun z=>h2 (.inr z)]
theorem ZoY (i:Nat) (ws:List (List Nat)):(Jb i ws).length<=4:=by
 unfold Jb
 repeat' split
 all_goals simp
theorem Zg3 (i:Nat) (ws:List (List Nat)):z6 (qz i ws) (ky "word")=some (V.str (T (ws.getD 0 []))):=Yf (p:=(ky "word",_)) rfl
theorem Zas (i:Nat) (ws:List (List Nat)):z6 (qz i ws) (ky "name")=some (V.str (T (ws.getD 1 []))):=by
 have q1:=Zcw (ZeT "word" (by decide) "name" (by decide) (by decide))
 exact (Yu (p:=(ky "word",_)) (by rw [q1];exact id)).trans (Yf (p:=(ky "name",_)) rfl)
theorem ZhB (ws:List (List Nat)):z6 (qz 0 ws) (ky "rest")=some (V.str (T (ws.getD 2 []))):=by
 have q1:=Zcw (ZeT "word" (by decide) "rest" (by decide) (by decide))
 have q2:=Zcw (ZeT "name" (by decide) "rest" (by decide) (by decide))
 simp [qz,z6,q1,q2]
theorem ZfI {i:Nat} (hi:i<5) (ws:List (List Nat)):z6 (qz i ws) (ky "other")=if i=4 then some (V.str (T (ws.getD 2 []))) else none:=by
 have q:∀a∈Zco,∀b∈Zco,a≠b->(ky a=ky b)=False:=fun a ha b hb n=>Zcw (ZeT a ha b hb n)
 have q1:=q "word" (by decide) "other" (by decide) (by decide)
 have q2:=q "name" (by decide) "other" (by decide) (by decide)
 have q3:=q "rest" (by decide) "other" (by decide) (by decide)
 have q4:=q "number" (by decide) "other" (by decide) (by decide)
 match i,hi with
 |0,_=>simp [qz,z6,q1,q2,q3]
 |1,_=>simp [qz,z6,q1,q2,q3]
 |2,_=>simp [qz,z6,q1,q2,q4]
 |3,_=>simp [qz,z6,q1,q2,q3,q4]
 |4,_=>simp [qz,z6,q1,q2,q3]
theorem _root_.L2.DGet.kys {H:Hp} {d:Addr} {kvs:List (Key×V)} (h:H d=some (.dK kvs)) (s:String):DGet H d (V.str (Str.ofString s)) (z6 kvs (ky s)):=by
 have e:V.str (Str.ofString s)=kV (ky s):=by
  show _=V.str (T (cd s))
  rw [Zfa]
 rw [e]
 exact DGet.k h
abbrev YE:=List (List Nat×List Nat)
def txK (kept:YE):List (Key×V):=kept.map fun p=>((.inr (T p.1):Key),V.str (T p.2))
def zC (kept:YE) (n:List Nat):Option (List Nat):=(kept.find? fun p=>p.1=n).map (·.2)
def Zcc (kept:YE) (n x:List Nat):YE:=if (zC kept n).isSome then kept.map (fun p=>if p.1=n then (p.1,x) else p) else kept++[(n,x)]
theorem Zaa (n:List Nat):∀kept:YE,z6 (txK kept) (.inr (T n))=(zC kept n).map fun x=>V.str (T x)
 |[]=>rfl
 |p::r=>by
  by_cases h:p.1=n
  ·have e1:z6 (txK (p::r)) (.inr (T n))=some (V.str (T p.2)):=Yf (p:=((.inr (T p.1):Key),V.str (T p.2))) (r:=txK r) (by rw [h])
   rw [e1]
   unfold zC
   rw [List.find?_cons,decide_eq_true h]
   rfl
  ·have e1:z6 (txK (p::r)) (.inr (T n))=z6 (txK r) (.inr (T n)):=Yu (p:=((.inr (T p.1):Key),V.str (T p.2))) (r:=txK r) fun z=>h (ZcI.mp (Sum.inr.inj z))
   rw [e1,Zaa n r]
   unfold zC
   rw [List.find?_cons,decide_eq_false h]
theorem Zd9 (kept:YE) (n x:List Nat):Zah (txK kept) (.inr (T n)) (V.str (T x))=txK (Zcc kept n x):=by
 unfold Zah Zcc
 rw [Zc1,Zaa,Option.isSome_map]
 cases (zC kept n).isSome with
 |true=>
  rw [if_pos rfl,if_pos rfl]
  unfold txK
  rw [map_map,map_map]
  refine map_congr_left fun p _=>?_
  show (if (Sum.inr (T p.1):Key)=.inr (T n) then _ else _)=_
  by_cases h:p.1=n
  ·rw [if_pos (by rw [h])]
   show _=((Sum.inr (T (if p.1=n then (p.1,x) else p).1):Key),V.str (T (if p.1=n then (p.1,x) else p).2))
   rw [if_pos h]
  ·rw [if_neg fun z=>h (ZcI.mp (Sum.inr.inj z))]
   show _=((Sum.inr (T (if p.1=n then (p.1,x) else p).1):Key),V.str (T (if p.1=n then (p.1,x) else p).2))
   rw [if_neg h]
 |false=>
  rw [if_neg (by decide),if_neg (by decide)]
  unfold txK
  rw [map_append]
  rfl
theorem ZmL (kept:YE) (n x:List Nat):(Zcc kept n x).length<=kept.length+1:=by
 unfold Zcc
 split
 ·rw [length_map];omega
 ·rw [length_append,length_singleton];omega
theorem Zfb (kept:YE) (n x m:List Nat):zC (Zcc kept n x) m=if m=n then some x else zC kept m:=by
 have h:=congrArg (fun q=>z6 q (.inr (T m))) (Zd9 kept n x)
 simp only [Zml,Zaa] at h
 by_cases e:m=n
 ·rw [if_pos e]
  rw [if_pos (by rw [e])] at h
  cases q:zC (Zcc kept n x) m with
  |none=>rw [q] at h;cases h
  |some y=>
   rw [q] at h
   have:=Option.some.inj h
   injection this with this
   rw [ZcI.mp this]
 ·rw [if_neg e]
  rw [if_neg fun z=>e (ZcI.mp (Sum.inr.inj z))] at h
  cases q:zC (Zcc kept n x) m with
  |none=>
   rw [q] at h
   cases q2:zC kept m with
   |none=>rfl
   |some y=>rw [q2] at h;cases h
  |some y=>
   rw [q] at h
   cases q2:zC kept m with
   |none=>rw [q2] at h;cases h
   |some y2=>
    rw [q2] at h
    have:=Option.some.inj h
    injection this with this
    rw [ZcI.mp this]
def YI (n:List Nat):Prop:=1<=n.length/\n.length<=8/\∀c∈n,97<=c/\c<=122
def ZgF (kept:YE) (i:Nat) (ws:List (List Nat)):Prop:=((ws.getD 0 []=cd "keep"\/ws.getD 0 []=cd "load")->YI (ws.getD 1 []))/\(¬(ws.getD 0 []=cd "keep"\/ws.getD 0 []=cd "load")->(zC kept (ws.getD 1 [])).isSome=true/\(i=4->(zC kept (ws.getD 2 [])).isSome=true))
def fsD (t:Addr):List (Str×V):=[("texts",.ref t)]
def Y8 (C:Addr) (H:Hp) (o:Addr) (t:Addr) (kept:YE):Prop:=(∃dx,H o=some (.ins C dx (fsD t)))/\H t=some (.dK (txK kept))
theorem Y8.same {C:Addr} {H H':Hp} {o t:Addr} {kept:YE} (d:Y8 C H o t kept) (s:ZS H H'):Y8 C H' o t kept:=by
 obtain ⟨⟨dx,h1⟩,h2⟩:=d
 exact ⟨⟨dx,s.at h1 (by nofun)⟩,s.at h2 (by nofun)⟩
def jn:List (List Nat)->List Nat
 |[]=>[]
 |[w]=>w
 |w::v::r=>w++32::jn (v::r)
theorem ZrC:∀{w:List Nat} {r:List (List Nat)},32∉w->fw (jn (w::r))=w
 |w,[],h=>Zgr h
 |w,v::r,h=>Zea _ h
theorem Zlj {n x:List Nat} (hn:32∉n):qO (jn [cd "keep",n]++32::x) 0 [cd "keep",n,x]:=by
 have hk:32∉cd "keep":=by decide +kernel
 have e:jn [cd "keep",n]++32::x=cd "keep"++32::(n++32::x):=by simp [jn]
 rw [e]
 refine ⟨by rw [Zea _ hk];decide +kernel,?_,rfl,fun h=>absurd h (by decide)⟩
 show _=spl 32 2 _
 rw [Zaq 1 _ hk,Zaq 0 _ hn,Zer]
theorem Zf0 {n:List Nat} (hn:32∉n):qO (jn [cd "text",n]) 1 [cd "text",n]:=by
 have hk:32∉cd "text":=by decide +kernel
 refine ⟨by rw [ZrC hk];decide +kernel,?_,rfl,fun h=>absurd h (by decide)⟩
 show _=spl 32 ((jn [cd "text",n]).length+1) (cd "text"++32::n)
 rw [Zaq _ _ hk,ZeH _ hn]
theorem ZdR {α β:Type} (f:α->β) (l:List α) {r:Int} (h0:0<=r) (h1:r<l.length):∃x∈l,atI (l.map f) r=some (f x):=by
 have hk:r.toNat<l.length:=by omega
 refine ⟨l[r.toNat],List.getElem_mem hk,?_⟩
 have hm:r<((l.map f).length:Int):=by rw [length_map];exact h1
 rw [LW.zJ (f l[r.toNat]) h0 hm,List.getD_eq_getElem?_getD,List.getElem?_map,List.getElem?_eq_getElem hk]
 rfl
theorem Y8.put {C:Addr} {H H':Hp} {o t:Addr} {kept kept':YE} (d:Y8 C H o t kept) (s:ZS (upd H t (.dK (txK kept'))) H'):Y8 C H' o t kept':=by
 obtain ⟨⟨dx,h1⟩,h2⟩:=d
 have ne:o≠t:=fun z=>by
  rw [z,h2] at h1
  cases h1
 exact ⟨⟨dx,s.at ((Zn ne).trans h1) (by nofun)⟩,s.at Zj (by nofun)⟩
def ZBp (n:List Nat):Prop:=∃p q b s,n=List.replicate p b++s::List.replicate q b/\p+q<8/\97<=b/\b<=122/\97<=s/\s<=122
theorem YI.noB {n:List Nat} (h:YI n):32∉n:=fun m=>by
 have:=h.2.2 32 m
 omega
def ZBq (n:List Nat):Bool:=decide (n.length<=1) || n.any fun b=>decide ((n.filter fun c=>decide (c≠b)).length<=1)
end LD
namespace L2
open PySem
theorem ZwA {X:Cx} {K:PySem.W.Frag} (hK:X.K=K):OpR X (binaryOp .Add) (Zn8 K):=by
 subst hK
 exact ZpT
theorem Zsi {X:Cx} {k:Nat} {x:Str} {C:Addr} {ps:List Str} {dvs:List V} {sp:Sp} {p pos:Pos} (M:Mkr X.prog X.w X.K X.mg X.base CX0 k x C ps dvs sp) (hr:YD (k+1) X.A) (hg:Gl X x:=by rfl) (hdb:(x==("__debug__":Str))=false:=by decide):PE X (.Call (.Name x p) [] [] pos) (ZlD C sp dvs E0 ZL):=by
 obtain ⟨f,fd,ds,F,hm,hb,hd⟩:=M.ex
 exact ZmG hm F hr hg M.at_ hb hd ZmC hdb
end L2
namespace My
open PySem L2 LW LP LD NumText
def top (i:Nat):Stmt:=PySem.Challenge.pw_backindex_k92_desk_loads.main.body.getD i (.Pass ⟨0,0,0,0⟩)
abbrev Yb:Stmt:=top 13
abbrev zi:List Str:=["place","last"]
theorem Zdj:ZA ["place","last"] zi (Zk Yb):=⟨rfl,rfl,rfl,by decide +kernel,rfl,by decide +kernel,by decide +kernel⟩
abbrev YZ:Stmt:=top 15
abbrev Yo:List Str:=["word"]
theorem Zex:ZA ["word"] Yo (Zk YZ):=⟨rfl,rfl,rfl,by decide +kernel,rfl,by decide +kernel,by decide +kernel⟩
abbrev qx:Stmt:=top 17
abbrev Jv:List Str:=["text"]
theorem Zfu:ZA ["text"] Jv (Zk qx):=⟨rfl,rfl,rfl,by decide +kernel,rfl,by decide +kernel,by decide +kernel⟩
abbrev zT:Stmt:=top 20
abbrev YC:List Str:=["one","other"]
theorem Zc5:ZA ["one","other"] YC (Zk zT):=⟨rfl,rfl,rfl,by decide +kernel,rfl,by decide +kernel,by decide +kernel⟩
abbrev zQ:Stmt:=top 23
abbrev Yt:List Str:=["text"]
theorem Ju:ZA ["text","order","letters"] Yt (Zk zQ):=⟨rfl,rfl,rfl,by decide +kernel,rfl,by decide +kernel,by decide +kernel⟩
abbrev q9:Stmt:=top 37
abbrev JT:List Str:=["text"]
theorem Jr:ZA ["text","runs","start","place"] JT (Zk q9):=⟨rfl,rfl,rfl,by decide +kernel,rfl,by decide +kernel,by decide +kernel⟩
abbrev JG:Stmt:=top 38
abbrev JH:List Str:=["letters","home"]
theorem ZdP:ZA ["letters","home","runs"] JH (Zk JG):=⟨rfl,rfl,rfl,by decide +kernel,rfl,by decide +kernel,by decide +kernel⟩
abbrev Y4:Stmt:=top 39
abbrev qD:List Str:=["text"]
theorem qa:ZA ["text","runs","start","end"] qD (Zk Y4):=⟨rfl,rfl,rfl,by decide +kernel,rfl,by decide +kernel,by decide +kernel⟩
abbrev qm:Stmt:=top 40
abbrev Jw:List Str:=["text"]
theorem qF:ZA ["text","words","home","runs","letters"] Jw (Zk qm):=⟨rfl,rfl,rfl,by decide +kernel,rfl,by decide +kernel,by decide +kernel⟩
abbrev Jd:Stmt:=top 42
abbrev JX:List Str:=["letters","home"]
theorem Ji:ZA ["letters","home","held","row","road"] JX (Zk Jd):=⟨rfl,rfl,rfl,by decide +kernel,rfl,by decide +kernel,by decide +kernel⟩
abbrev Y0:Stmt:=top 43
abbrev qC:List Str:=["letters","home"]
theorem Jn:ZA ["letters","home","road","held","signs"] qC (Zk Y0):=⟨rfl,rfl,rfl,by decide +kernel,rfl,by decide +kernel,by decide +kernel⟩
abbrev qu:Stmt:=top 53
abbrev Jm:List Str:=["row"]
theorem YW:ZA ["row","word","parts","words","told"] Jm (Zk qu):=⟨rfl,rfl,rfl,by decide +kernel,rfl,by decide +kernel,by decide +kernel⟩
abbrev qU:Stmt:=top 54
abbrev JY:List Str:=["word"]
theorem Zgx:ZA ["word"] JY (Zk qU):=⟨rfl,rfl,rfl,by decide +kernel,rfl,by decide +kernel,by decide +kernel⟩
abbrev z9:Stmt:=top 55
abbrev YU:List Str:=["texts","told"]
theorem ZaV:ZA ["texts","told","part"] YU (Zk z9):=⟨rfl,rfl,rfl,by decide +kernel,rfl,by decide +kernel,by decide +kernel⟩
abbrev Y3:Stmt:=top 56
abbrev YX:List Str:=["texts","name","text"]
theorem Zel:ZA ["texts","name","text"] YX (Zk Y3):=⟨rfl,rfl,rfl,by decide +kernel,rfl,by decide +kernel,by decide +kernel⟩
abbrev Ya:Stmt:=top 58
abbrev YK:List Str:=["texts","told"]
theorem Zdv:ZA ["texts","told"] YK (Zk Ya):=⟨rfl,rfl,rfl,by decide +kernel,rfl,by decide +kernel,by decide +kernel⟩
abbrev Ye:Stmt:=top 59
abbrev YV:List Str:=["texts","told"]
theorem Zbe:ZA ["texts","told","pair"] YV (Zk Ye):=⟨rfl,rfl,rfl,by decide +kernel,rfl,by decide +kernel,by decide +kernel⟩
abbrev Yd:Stmt:=top 63
abbrev YM:List Str:=["texts","told"]
theorem ZdE:ZA ["texts","told"] YM (Zk Yd):=⟨rfl,rfl,rfl,by decide +kernel,rfl,by decide +kernel,by decide +kernel⟩
abbrev Yc:Stmt:=top 64
abbrev YR:List Str:=["texts","told"]
theorem Zbc:ZA ["texts","told","pair"] YR (Zk Yc):=⟨rfl,rfl,rfl,by decide +kernel,rfl,by decide +kernel,by decide +kernel⟩
abbrev qZ:Stmt:=top 76
abbrev JW:List Str:=["_law_script","_law_k"]
theorem Zf8:ZA ["_law_script","_law_k"] JW (Zk qZ):=⟨rfl,rfl,rfl,by decide +kernel,rfl,by decide +kernel,by decide +kernel⟩
abbrev JD:Stmt:=top 77
abbrev JC:List Str:=["_law_seed","_law_many"]
theorem JU:ZA ["_law_seed","_law_many","_law_number","_law_some","_law_k"] JC (Zk JD):=⟨rfl,rfl,rfl,by decide +kernel,rfl,by decide +kernel,by decide +kernel⟩
abbrev ZaY:Stmt:=top 78
abbrev ZbG:List Str:=["_law_number"]
theorem Zdz:ZA ["_law_number","_law_some"] ZbG (Zk ZaY):=⟨rfl,rfl,rfl,by decide +kernel,rfl,by decide +kernel,by decide +kernel⟩
abbrev qX:Stmt:=top 79
abbrev JV:List Str:=["_law_script","_law_at","_law_cell"]
theorem zg:ZA ["_law_script","_law_at","_law_cell","_law_some","_law_size","_law_kind","_law_numbers","_law_signs","_law_k","_law_number"] JV (Zk qX):=⟨rfl,rfl,rfl,by decide +kernel,rfl,by decide +kernel,by decide +kernel⟩
abbrev Zak:Stmt:=top 80
abbrev ZaW:List Str:=["_law_text"]
theorem ZiB:ZA ["_law_text"] ZaW (Zk Zak):=⟨rfl,rfl,rfl,by decide +kernel,rfl,by decide +kernel,by decide +kernel⟩
abbrev ZaU:Stmt:=top 81
abbrev Zba:List Str:=["_law_text"]
theorem ZfS:ZA ["_law_text","_law_order_here"] Zba (Zk ZaU):=⟨rfl,rfl,rfl,by decide +kernel,rfl,by decide +kernel,by decide +kernel⟩
abbrev Za5:Stmt:=top 82
abbrev ZbV:List Str:=["_law_letters","_law_home","_law_row"]
theorem Zdn:ZA ["_law_letters","_law_home","_law_row","_law_below","_law_sign_here"] ZbV (Zk Za5):=⟨rfl,rfl,rfl,by decide +kernel,rfl,by decide +kernel,by decide +kernel⟩
abbrev qW:Stmt:=top 83
abbrev qg:List Str:=["_law_letters","_law_home"]
theorem YG:ZA ["_law_letters","_law_home","_law_text","_law_k","_law_many"] qg (Zk qW):=⟨rfl,rfl,rfl,by decide +kernel,rfl,by decide +kernel,by decide +kernel⟩
abbrev Za0:Stmt:=top 84
abbrev ZbI:List Str:=["_law_letters","_law_home"]
theorem Zb5:ZA ["_law_letters","_law_home","_law_signs","_law_row"] ZbI (Zk Za0):=⟨rfl,rfl,rfl,by decide +kernel,rfl,by decide +kernel,by decide +kernel⟩
abbrev Za9:Stmt:=top 85
abbrev Zao:List Str:=["_law_desk","_law_row"]
theorem ZdH:ZA ["_law_desk","_law_row","_law_told","e"] Zao (Zk Za9):=⟨rfl,rfl,rfl,by decide +kernel,rfl,by decide +kernel,by decide +kernel⟩
abbrev qV:Stmt:=top 86
abbrev qd:List Str:=["_law_told","_law_text"]
theorem Zf9:ZA ["_law_told","_law_text"] qd (Zk qV):=⟨rfl,rfl,rfl,by decide +kernel,rfl,by decide +kernel,by decide +kernel⟩
abbrev Zb9:Stmt:=top 87
abbrev Zdb:List Str:=["_law_letters","_law_home","_law_kind","_law_number"]
theorem Zal:ZA ["_law_letters","_law_home","_law_kind","_law_number","_law_good","_law_rest","_law_more","_law_some"] Zdb (Zk Zb9):=⟨rfl,rfl,rfl,by decide +kernel,rfl,by decide +kernel,by decide +kernel⟩
abbrev ZaZ:Stmt:=top 88
abbrev Zbz:List Str:=["_law_number"]
theorem Zb4:ZA ["_law_number","_law_name_here","_law_k"] Zbz (Zk ZaZ):=⟨rfl,rfl,rfl,by decide +kernel,rfl,by decide +kernel,by decide +kernel⟩
abbrev qp:Stmt:=top 89
abbrev Jq:List Str:=["_law_desk","_law_kept","_law_names"]
theorem JO:ZA ["_law_desk","_law_kept","_law_names","_law_name_here","_law_letters","_law_home"] Jq (Zk qp):=⟨rfl,rfl,rfl,by decide +kernel,rfl,by decide +kernel,by decide +kernel⟩
abbrev Za1:Stmt:=top 90
abbrev ZbZ:List Str:=["_law_desk","_law_kept","_law_names","_law_text","_law_cell"]
theorem za:ZA ["_law_desk","_law_kept","_law_names","_law_text","_law_cell","_law_some","_law_letters","_law_home","_law_written_here","_law_due","_law_refused","_law_name_here","_law_told"] ZbZ (Zk Za1):=⟨rfl,rfl,rfl,by decide +kernel,rfl,by decide +kernel,by decide +kernel⟩
abbrev Zdh:Stmt:=top 91
abbrev ZjP:List Str:=["_law_script"]
theorem Zct:ZA ["_law_script","_law_number","_law_names","_law_desk","_law_kept","_law_k","_law_text"] ZjP (Zk Zdh):=⟨rfl,rfl,rfl,by decide +kernel,rfl,by decide +kernel,by decide +kernel⟩
abbrev zR:Stmt:=(ZaC (top 24)).getD 0 (.Pass ⟨0,0,0,0⟩)
abbrev zS:List Str:=["self","letters","home"]
theorem ZaL:ZA ["self","letters","home","column"] zS (Zk zR):=⟨rfl,rfl,rfl,by decide +kernel,rfl,by decide +kernel,by decide +kernel⟩
abbrev zw:Stmt:=(ZaC (top 24)).getD 1 (.Pass ⟨0,0,0,0⟩)
abbrev zp:List Str:=["self","row"]
theorem Zck:ZA ["self","row"] zp (Zk zw):=⟨rfl,rfl,rfl,by decide +kernel,rfl,by decide +kernel,by decide +kernel⟩
abbrev zE:Stmt:=(ZaC (top 24)).getD 2 (.Pass ⟨0,0,0,0⟩)
abbrev Yi:List Str:=["self","sign"]
theorem Zcv:ZA ["self","sign"] Yi (Zk zE):=⟨rfl,rfl,rfl,by decide +kernel,rfl,by decide +kernel,by decide +kernel⟩
abbrev zm:Stmt:=(ZaC (top 24)).getD 3 (.Pass ⟨0,0,0,0⟩)
abbrev zX:List Str:=["self","sign","row"]
theorem Zce:ZA ["self","sign","row"] zX (Zk zm):=⟨rfl,rfl,rfl,by decide +kernel,rfl,by decide +kernel,by decide +kernel⟩
abbrev Z9:Stmt:=(ZaC (top 24)).getD 4 (.Pass ⟨0,0,0,0⟩)
abbrev zB:List Str:=["self","sign","row"]
theorem Zby:ZA ["self","sign","row"] zB (Zk Z9):=⟨rfl,rfl,rfl,by decide +kernel,rfl,by decide +kernel,by decide +kernel⟩
abbrev zO:Stmt:=(ZaC (top 24)).getD 6 (.Pass ⟨0,0,0,0⟩)
abbrev Yw:List Str:=["self","row"]
theorem ZaO:ZA ["self","row","sign"] Yw (Zk zO):=⟨rfl,rfl,rfl,by decide +kernel,rfl,by decide +kernel,by decide +kernel⟩
abbrev YY:Stmt:=(ZaC (top 74)).getD 0 (.Pass ⟨0,0,0,0⟩)
abbrev qE:List Str:=["self"]
theorem ZeQ:ZA ["self"] qE (Zk YY):=⟨rfl,rfl,rfl,by decide +kernel,rfl,by decide +kernel,by decide +kernel⟩
abbrev qt:Stmt:=(ZaC (top 74)).getD 1 (.Pass ⟨0,0,0,0⟩)
abbrev Jh:List Str:=["self","row"]
theorem Zcl:ZA ["self","row","told"] Jh (Zk qt):=⟨rfl,rfl,rfl,by decide +kernel,rfl,by decide +kernel,by decide +kernel⟩
abbrev Zft:Pos:=⟨39,44,39,70⟩
abbrev Zcr:Str:="order_of.<locals>.<lambda>"
abbrev ZT (tb:Addr) (H:Hp):Prop:=Bk tb Zft Zcr H
abbrev Ziz:Pos:=⟨376,55,376,96⟩
abbrev Zey:Str:="_law_order.<locals>.<lambda>"
abbrev qT (tb:Addr) (H:Hp):Prop:=Bk tb Ziz Zey H
abbrev ZcE:Pos:=⟨64,53,64,76⟩
abbrev Zaz:Str:="Letters.__init__.<locals>.<lambda>"
abbrev Zr (tb:Addr) (H:Hp):Prop:=Bk tb ZcE Zaz H
structure Cs where
 BackError:Addr
 NoPlace:Addr
 NoGap:Addr
 NoText:Addr
 NoTimes:Addr
 Empty:Addr
 TooLong:Addr
 NoName:Addr
 NoRow:Addr
structure Er (K:PySem.W.Frag) (mg:Str->Option Value) (c:Cs):Prop where
 m_BackError:mg "BackError"=some (.ref c.BackError)
 x_BackError:ExC K c.BackError
 m_NoPlace:mg "NoPlace"=some (.ref c.NoPlace)
 x_NoPlace:ExC K c.NoPlace
 m_NoText:mg "NoText"=some (.ref c.NoText)
 x_NoText:ExC K c.NoText
 g_NoText:Zcg K c.NoText
 v_NoText:kitOne K (.ref c.NoText) (.type "ValueError")=some true
 r_NoText_BackError:(Zan K c.NoText).contains (.ref c.BackError)=true
 t_NoText_NoPlace:kitOne K (.ref c.NoText) (.ref c.NoPlace)=some false
 t_NoText_NoText:kitOne K (.ref c.NoText) (.ref c.NoText)=some true
 t_NoText_NoName:kitOne K (.ref c.NoText) (.ref c.NoName)=some false
 t_NoText_NoRow:kitOne K (.ref c.NoText) (.ref c.NoRow)=some false
 m_TooLong:mg "TooLong"=some (.ref c.TooLong)
 x_TooLong:ExC K c.TooLong
 m_NoName:mg "NoName"=some (.ref c.NoName)
 x_NoName:ExC K c.NoName
 g_NoName:Zcg K c.NoName
 v_NoName:kitOne K (.ref c.NoName) (.type "ValueError")=some true
 r_NoName_BackError:(Zan K c.NoName).contains (.ref c.BackError)=true
 t_NoName_NoPlace:kitOne K (.ref c.NoName) (.ref c.NoPlace)=some false
 t_NoName_NoText:kitOne K (.ref c.NoName) (.ref c.NoText)=some false
 t_NoName_NoName:kitOne K (.ref c.NoName) (.ref c.NoName)=some true
 t_NoName_NoRow:kitOne K (.ref c.NoName) (.ref c.NoRow)=some false
 m_NoRow:mg "NoRow"=some (.ref c.NoRow)
 x_NoRow:ExC K c.NoRow
 g_NoRow:Zcg K c.NoRow
 v_NoRow:kitOne K (.ref c.NoRow) (.type "ValueError")=some true
 r_NoRow_BackError:(Zan K c.NoRow).contains (.ref c.BackError)=true
 t_NoRow_NoPlace:kitOne K (.ref c.NoRow) (.ref c.NoPlace)=some false
 t_NoRow_NoText:kitOne K (.ref c.NoRow) (.ref c.NoText)=some false
 t_NoRow_NoName:kitOne K (.ref c.NoRow) (.ref c.NoName)=some false
 t_NoRow_NoRow:kitOne K (.ref c.NoRow) (.ref c.NoRow)=some true
structure Cf (K:PySem.W.Frag) (Zc:Addr) (Zm:Addr):Prop where
 cl_Letters:Cls K Zc
 na_Letters_column:Jk K Zc "column"
 na_Letters_forths:Jk K Zc "forths"
 na_Letters_home:Jk K Zc "home"
 na_Letters_last:Jk K Zc "last"
 na_Letters_totals:Jk K Zc "totals"
 cl_Desk:Cls K Zm
 na_Desk_texts:Jk K Zm "texts"
def ZbA:List (Str×V):=[("keep",.str "word name rest"),("load",.str "word name rest"),("ahead",.str "word name rest"),("drop",.str "word name"),("off",.str "word name number"),("text",.str "word name"),("pack",.str "word name"),("count",.str "word name rest"),("find",.str "word name rest"),("near",.str "word name number rest"),("often",.str "word name number"),("kinds",.str "word name"),("lone",.str "word name"),("cut",.str "word name rest"),("both",.str "word name other")]
def Zbn:List V:=[.str "keep",.str "load"]
def ZeS:List (Str×Str):=[("keep","answer_keep"),("load","answer_load"),("text","answer_text"),("pack","answer_pack")]
structure Tp (K:PySem.W.Frag) (P:Params) (mg:Str->Option Value) (Zp Zh Zi:Addr):Prop where
 m_FORMS:mg "FORMS"=some (.ref Zp)
 d_FORMS:Zfg K P Zp ZbA
 m_KEEPING:mg "KEEPING"=some (.ref Zh)
 d_KEEPING:ZqV K Zh Zbn
 m_ANSWERS:mg "ANSWERS"=some (.ref Zi)
 d_ANSWERS:ZvE K P mg Zi ZeS
structure Gc (mg:Str->Option Value):Prop where
 MOST_SIGNS:∃t,mg "MOST_SIGNS"=some (.int 300 t)
 NO_LETTER:∃t,mg "NO_LETTER"=some (.str "\n" t)
structure Bn (mg:Str->Option Value):Prop where
 ValueError:mg "ValueError"=none
 dict:mg "dict"=none
 int:mg "int"=none
 isinstance:mg "isinstance"=none
 len:mg "len"=none
 list:mg "list"=none
 range:mg "range"=none
 reversed:mg "reversed"=none
 set:mg "set"=none
 sorted:mg "sorted"=none
 str:mg "str"=none
 sum:mg "sum"=none
 zip:mg "zip"=none
section
variable {P:Program} {w:World} {K:PySem.W.Frag} {mg:Str->Option Value} {base:Heap}
def ze (K:PySem.W.Frag) (c:Cs):Sp:=fun vs H Q E=>match vs with
 |[.str z]=>(L z).length<=sizeLine/\(ZbS (L z)->Q (.int (digitsVal (L z):Nat)) H)/\(¬ZbS (L z)->E (.ref c.NoRow) none H)
 |_=>False
theorem Zff {f:Addr} {fd:FuncData} (F:Fun K "number_in" "number_in" YZ f fd) (B:Bn mg) {c:Cs} (ER:Er K mg c) {Zp Zh Zi:Addr} (TP:Tp K w.params mg Zp Zh Zi) {Zc Zm:Addr} (CF:Cf K Zc Zm) (GC:Gc mg):Z4 P w K mg base (CX1 P w) 1 f fd Yo (ze K c):=by
 refine F.okX Zex (fun vs H Q E h=>?_) (fun cdv A outer s H vs Q E hr h=>?_)<;>unfold ze at h<;>split at h<;>first|exact h.elim|skip
 ·rfl
 ·rename_i z
  obtain ⟨hl,q,e⟩:=h
  refine ⟨_,(Ze (zd (PW.pt (ZfW (Z7 Zfw (ZH (zr (K:=K) rfl) (by rfl) B.len zo (Zb (qv 0) Zf)) Zl) (ZfW (Z7 Zd4 (ZH (zr (K:=K) rfl) (by rfl) B.len zo (Zb (qv 0) Zf)) Zl) (Ze2 (Z7 Zfr (zH (K:=K) rfl PySem.F.plainAttrs_str PySem.F.slot_str_strip PySem.F.type_str_strip ZjJ (qv 0) (Zb Zs Zf)) Zs))))) (Zo (YT Z0 rfl ER.x_NoRow rfl ER.m_NoRow (Zb Zs Zf))) ZM)
   (Ze (zd (PW.pt (ZnR (Z7 Zc7 (ZX (Z1 (K:=K) rfl) (qv 0) Zl (fun _ _=>rfl)) Zs) (Zj3 (Z7 Zfr (qv 0) Zs)))) (Zo (YT Z0 rfl ER.x_NoRow rfl ER.m_NoRow (Zb Zs Zf))) ZM)
   (Zo (ZI (zF ZgE (by rfl) B.int Zgg (Zb (qv 0) Zf)))))),?_⟩
  have hsz:sizeLine=16777216:=sizeLine_eq
  have e1:L (Str.ofString "0123456789")=[48,49,50,51,52,53,54,55,56,57]:=by decide +kernel
  have e2:L (Str.ofString "")=[]:=by decide +kernel
  have e3:L (Str.ofString "0")=[48]:=by decide +kernel
  have dg:(∀c∈L z,c∈[48,49,50,51,52,53,54,55,56,57])↔∀c∈L z,48<=c/\c<=57:=by
   refine forall_congr' fun c=>forall_congr' fun _=>?_
   simp only [mem_cons,List.not_mem_nil,or_false]
   omega
  simp only [L2.ZR,map_cons,map_nil,length_cons,length_nil,replicate_zero,Nat.reduceAdd,Nat.reduceSub,true_and,decide_eq_true_eq,if_true,if_false,Bool.false_eq_true,gS,ZE,tC,zG,zf,zP,YH,tOp,tCB,Zx,ZL,tB2,ZwV,tOr,Jg,ltV,eqR,neR,sc,ixV,Jz,tBM,tyV,L_T,JJ,ZiO,Zqa,append_nil,gtV,e1,e2,e3]
  refine ⟨hl,z7 (fun w=>⟨by decide,e fun g=>by have:=g.1;omega⟩) fun w1=>⟨hl,z7 (fun w=>⟨by decide,e fun g=>by have:=g.2.1;omega⟩) fun w2=>⟨hl,fun l hll=>?_⟩⟩⟩
  have h0:L z≠[]:=fun w=>by
   rw [w] at w1
   exact w1 (by decide)
  by_cases l0:l=[]
  ·have d:=dg.mp (hll.mp l0)
   rw [decide_eq_true l0]
   refine Zd0 ⟨hl,_,zJ 0 (by omega) (by omega),z7 (fun w=>?_) fun w=>⟨by omega,h0,d,q ⟨by omega,by omega,d,fun v=>absurd (by rw [show ((0:Int)).toNat=0 from rfl,v]) w⟩⟩⟩
   have e0:(L z).getD 0 0=48:=List.head_eq_of_cons_eq w
   by_cases e4:L z=[48]
   ·rw [decide_eq_true e4]
    exact Zd0 ⟨by omega,h0,d,q ⟨by omega,by omega,d,fun _=>e4⟩⟩
   ·rw [decide_eq_false e4]
    exact Zht ⟨by decide,e fun g=>e4 (g.2.2.2 e0)⟩
  ·rw [decide_eq_false l0]
   exact Zht ⟨by decide,e fun g=>l0 (hll.mpr (dg.mpr g.2.2.1))⟩
theorem Znu:ZbA=Zjd.map fun p=>(Str.ofString p.1,V.str (Str.ofString (ZhC p.2))):=rfl
theorem Zlu (w:List Nat):ZcA ZbA (T w)=(Zkb w).map fun i=>V.str (Str.ofString (ZhC i)):=by
 rw [Znu]
 exact Zko w Zjd
def qA (K:PySem.W.Frag) (c:Cs):Sp:=fun vs H Q E=>match vs with
 |[.str z]=>(L z).length<=5000/\(∀i ws,qO (L z) i ws->∀H' d,Zw H H'->H d=none->H' d=some (.dK (qz i ws))->Q (.ref d) H')/\((¬ ∃i ws,qO (L z) i ws)->∀H',Zw H H'->E (.ref c.NoRow) none H')
 |_=>False
theorem Zfx {f:Addr} {fd:FuncData} (F:Fun K "read_row" "read_row" qu f fd) (B:Bn mg) {c:Cs} (ER:Er K mg c) {Zp Zh Zi:Addr} (TP:Tp K w.params mg Zp Zh Zi) {Zc Zm:Addr} (CF:Cf K Zc Zm) (GC:Gc mg) (zy:FnX P w K mg base 1 "number_in" Yo (ze K c)):Z4 P w K mg base (CX1 P w) 2 f fd Jm (qA K c):=by
 refine F.okX YW (fun vs H Q E h=>?_) (fun cdv A outer s H vs Q E hr h=>?_)<;>unfold qA at h<;>split at h<;>first|exact h.elim|skip
 ·rfl
 ·rename_i z
  obtain ⟨hl,q,e⟩:=h
  refine ⟨_,(Ze (ZK (Zu (i:=1) YW.nd rfl (by first|exact Or.inl rfl|exact Or.inr rfl) (ZX (Z1 (K:=K) rfl) (zH (K:=K) rfl PySem.F.plainAttrs_str PySem.F.slot_str_partition PySem.F.type_str_partition ZdO (qv 0) (Zb Zs Zf)) Zl (fun _ _=>rfl))))
   (Ze (zd (Z7 (Zky (K:=K) rfl rfl TP.d_FORMS) (qv 1) (Jt (v:=.ref Zp) rfl TP.m_FORMS rfl)) (Zo (YT Z0 rfl ER.x_NoRow rfl ER.m_NoRow (Zb Zs Zf))) ZM)
   (Ze (ZK (Zu (i:=2) YW.nd rfl (by first|exact Or.inl rfl|exact Or.inr rfl) (zH (K:=K) rfl PySem.F.plainAttrs_str PySem.F.slot_str_split PySem.F.type_str_split Zgh (ZX (ZxN (K:=K) rfl rfl TP.d_FORMS) (Jt (v:=.ref Zp) rfl TP.m_FORMS rfl) (qv 1) (fun _ _=>rfl)) (Zb Zs Zf))))
   (Ze (ZK (Zu (i:=3) YW.nd rfl (by first|exact Or.inl rfl|exact Or.inr rfl) (zH (K:=K) rfl PySem.F.plainAttrs_str PySem.F.slot_str_split PySem.F.type_str_split Zgh (qv 0) (Zb Zs Zf))))
   (Ze (ZK (zd (Z7 Zc7 (ZX (Z1 (K:=K) rfl) (qv 2) (ZmA Zow Zl) (fun _ _=>rfl)) Zs) (Zo (Zu (i:=3) YW.nd rfl (by first|exact Or.inl rfl|exact Or.inr rfl) (zH (K:=K) rfl PySem.F.plainAttrs_str PySem.F.slot_str_split PySem.F.type_str_split Zgh (qv 0) (Zb Zs (Zb (Zv ZeD (ZH (zr (K:=K) rfl) (by rfl) B.len zo (Zb (qv 2) Zf)) Zl) Zf))))) ZM))
   (Ze (zd (Z7 Zfr (ZH (zr (K:=K) rfl) (by rfl) B.len zo (Zb (qv 3) Zf)) (ZH (zr (K:=K) rfl) (by rfl) B.len zo (Zb (qv 2) Zf))) (Zo (YT Z0 rfl ER.x_NoRow rfl ER.m_NoRow (Zb Zs Zf))) ZM)
   (Ze (ZK (Zu (i:=4) YW.nd rfl (by first|exact Or.inl rfl|exact Or.inr rfl) (Znz (K:=K) rfl rfl B.dict B.zip (Zb (qv 2) (Zb (qv 3) Zf)))))
   (Ze (ZK (zd (Zgw (Zir (Y7 hr) Zs (qv 4))) (Zo (Zei (Y7 hr) (qv 4) Zs (qh Z0.toTk zy (hr.mono (by decide)) (Zb (Yr (Y7 hr) (qv 4) Zs (fun _ _=>rfl)) Zf)) rfl)) ZM))
   (Zo (ZI (qv 4))))))))))),?_⟩
  have hsz:sizeLine=16777216:=sizeLine_eq
  have e1:L (Str.ofString " ")=[32]:=by decide +kernel
  refine zI (fun σ' H'=>Zw H H'/\σ'=[some (V.str z),some (V.str (T (fw (L z)))),none,none,none]) ?_ ?_
  ·simp only [L2.ZR,map_cons,map_nil,length_cons,length_nil,replicate_succ,replicate_zero,cons_append,nil_append,Nat.reduceAdd,Nat.reduceSub,true_and,set_cons_zero,set_cons_succ,gS,ZE,tC,Z3,Zz,tOp,Zx,ZL,ixV,tBM,tyV,ZqT,e1]
   refine ⟨32,rfl,by omega,fun k h1 h2 p hp=>⟨_,_,.inr (SqT.of Zj),rfl,Zw.updN hp,by rw [Zy5 h1 h2]⟩,fun h1 p hp=>⟨_,_,.inr (SqT.of Zj),rfl,Zw.updN hp,by rw [ZyP h1,T_L]⟩⟩
  rintro _ H1 ⟨s1,rfl⟩
  simp only [length_cons,length_nil,Nat.reduceAdd,true_and,gS,ZE,tC,zG,zf,YH,Zx,ZL,tB2,JJ,ZgG]
  have hfm:=Zlu (fw (L z))
  cases hf:Zkb (fw (L z)) with
  |none=>
   rw [hf] at hfm
   rw [hfm]
   exact Zht ⟨by decide,e (fun ⟨i,ws,g⟩=>by have:=g.1;rw [hf] at this;cases this) H1 s1⟩
  |some i=>
   have hi:=ZlV hf
   replace hfm:ZcA ZbA (T (fw (L z)))=some (V.str (Str.ofString (ZhC i))):=by rw [hfm,hf];rfl
   rw [hfm]
   refine Zd0 ?_
   have hL:∀s:String,L (Str.ofString s)=cd s:=fun _=>rfl
   refine zI (fun σ' H'=>Zw H H'/\∃p,H' p=some (.lst ((Yp i).map fun w=>V.str (T w)))/\σ'=[some (V.str z),some (V.str (T (fw (L z)))),some (V.ref p),none,none]) ?_ ?_
   ·simp only [true_and,String.reduceEq,set_cons_zero,set_cons_succ,gS,ZE,tC,Z3,Zz,tOp,Zx,ZL,tBM,tyV,Zpr,Zdi,hfm]
    have l1:∀i,i<5->(L (Str.ofString (ZhC i))).length+2<=sizeLine:=by rw [hsz];decide +kernel
    refine ⟨_,rfl,?_⟩
    simp only [true_and,e1]
    refine ⟨32,rfl,by decide,l1 i hi,fun p hp=>⟨s1.upd hp,p,?_,rfl⟩⟩
    rw [hL,Zly i hi]
    exact Zj
   rintro _ H2 ⟨s2,p,hp,rfl⟩
   refine zI (fun σ' H'=>Zw H H'/\∃q,H' p=some (.lst ((Yp i).map fun w=>V.str (T w)))/\H' q=some (.lst ((spl 32 ((L z).length+1) (L z)).map fun w=>V.str (T w)))/\σ'=[some (V.str z),some (V.str (T (fw (L z)))),some (V.ref p),some (V.ref q),none]) ?_ ?_
   ·simp only [true_and,set_cons_zero,set_cons_succ,gS,ZE,tC,Z3,Zz,Zx,ZL,tBM,tyV,Zpr,e1]
    exact ⟨32,rfl,by decide,by omega,fun q hq=>⟨s2.upd hq,q,(Zn (Zq hp hq)).trans hp,Zj,rfl⟩⟩
   rintro _ H3 ⟨s3,q0,hp3,hq3,rfl⟩
   refine zI (fun σ' H'=>Zw H H'/\∃q,H' p=some (.lst ((Yp i).map fun w=>V.str (T w)))/\H' q=some (.lst ((J9 i (L z)).map fun w=>V.str (T w)))/\σ'=[some (V.str z),some (V.str (T (fw (L z)))),some (V.ref p),some (V.ref q),none]) ?_ ?_
   ·simp only [true_and,set_cons_zero,set_cons_succ,gS,ZE,tC,zf,Z3,Zz,YH,tOp,tUn,tCB,Zx,ZL,tB2,Jg,eqR,sc,Zkw,ixV,Jz,tBM,tyV,Zpr,e1]
    refine ⟨_,_,.inl (SqL.of hp3),Zlp hi,?_⟩
    simp only [decide_eq_true_eq,L_T,hL]
    have hlr:ZoS i=cd "rest"↔(i=0\/i=3):=decide_eq_decide.mp (ZiG i hi)
    refine z7 (fun h03=>?_) fun h03=>?_
    ·rw [hlr] at h03
     have fl:1<=(Yp i).length/\(Yp i).length<=4:=by
      rw [ZiI i hi]
      split
      ·omega
      ·split<;>omega
     have hn:((((Yp i).map fun w=>V.str (T w)).length:Int)-1).toNat=(Yp i).length-1:=by rw [length_map];omega
     refine ⟨_,.inl (SqL.of hp3),32,rfl,by decide,by omega,by rw [length_map];omega,by rw [length_map];omega,fun q hq=>⟨s3.upd hq,q,(Zn (Zq hp3 hq)).trans hp3,?_,rfl⟩⟩
     rw [Zj,hn]
     unfold J9
     rw [if_pos h03]
    ·rw [hlr] at h03
     refine ⟨s3,q0,hp3,?_,rfl⟩
     unfold J9
     rw [if_neg h03]
     exact hq3
   rintro _ H4 ⟨s4,q1,hp4,hq4,rfl⟩
   simp only [length_cons,length_nil,Nat.reduceAdd,gS,ZE,tC,zG,zf,YH,tCB,Zx,ZL,tB2,neR,sc,Jz,JJ]
   refine ⟨_,.inl (SqL.of hq4),_,.inl (SqL.of hp4),z7 (fun hne=>⟨by decide,e (fun ⟨j,ws,g⟩=>?_) H4 s4⟩) fun heq=>?_⟩
   ·have ej:j=i:=Option.some.inj (g.1.symm.trans hf)
    subst ej
    simp only [Bool.not_eq_true',decide_eq_false_iff_not,length_map] at hne
    exact hne (by have:=g.2.2.1;rw [g.2.1] at this;omega)
   have hwl:(J9 i (L z)).length=(Yp i).length:=by
    simp only [Bool.not_eq_true',decide_eq_false_iff_not,length_map,Decidable.not_not] at heq
    omega
   refine zI (fun σ' H'=>Zw H H'/\∃d,H d=none/\H' d=some (.dK (Jb i (J9 i (L z))))/\σ'=[some (V.str z),some (V.str (T (fw (L z)))),some (V.ref p),some (V.ref q1),some (V.ref d)]) ?_ ?_
   ·simp only [set_cons_zero,set_cons_succ,gS,ZE,Z3,Zz,Zx,ZL,ZnS,Zi2]
    refine ⟨Yp i,(J9 i (L z)).map fun w=>V.str (T w),SqL.of hp4,SqL.of hq4,by rw [length_map];exact hwl.symm,fun d hd=>⟨s4.upd hd,d,s4.free hd,?_,rfl⟩⟩
    rw [Zj,Zk7 hi hwl]
   rintro _ H5 ⟨s5,d,hd0,hd5,rfl⟩
   refine zI (fun σ' H'=>Zw H H'/\qO (L z) i (J9 i (L z))/\H' d=some (.dK (qz i (J9 i (L z))))/\σ'=[some (V.str z),some (V.str (T (fw (L z)))),some (V.ref p),some (V.ref q1),some (V.ref d)]) ?_ ?_
   ·simp only [and_true,gS,ZE,tC,zf,YH,Zx,ZL,Zcd,Zbr,ZqU,ZfL,tB]
    have ek:V.str (Str.ofString "number")=kV (ky "number"):=by
     show _=V.str (T (cd "number"))
     rw [Zfa]
    refine ⟨d,_,rfl,by rw [ek];exact DGet.k hd5,_,rfl,?_⟩
    rw [Ze6 hi]
    by_cases h2:i=2\/i=3
    ·rw [if_pos h2]
     refine Zht ⟨d,_,rfl,by rw [ek];exact (Ze6 hi (J9 i (L z))).trans (if_pos h2)▸DGet.k hd5,?_⟩
     have hw3:((J9 i (L z)).getD 2 []).length<=5000:=Nat.le_trans (ZjD i (L z) 2) hl
     simp only [ze,L_T]
     refine ⟨by omega,fun g=>⟨d,_,rfl,by rw [ek];exact .inl ⟨_,ky "number",hd5,rfl,by have:=ZoY i (J9 i (L z));omega,rfl⟩,?_⟩,fun g=>e (fun ⟨j,ws,gr⟩=>?_) H5 s5⟩
     ·rw [Zij hi h2]
      refine ⟨fun b o hb=>?_,⟨hf,rfl,hwl,fun _=>g⟩,Zj⟩
      rw [Zn (Zq hb hd0)]
      exact s5 b o hb
     ·have ej:j=i:=Option.some.inj (gr.1.symm.trans hf)
      subst ej
      exact g (gr.2.1▸gr.2.2.2 h2)
    ·rw [if_neg h2]
     exact Zd0 ⟨s5,⟨hf,rfl,hwl,fun z=>absurd z h2⟩,Zqq h2 _▸hd5⟩
   rintro _ H6 ⟨s6,g6,hd6,rfl⟩
   simp only [gS,ZE,zP]
   exact q i _ g6 H6 d s6 hd0 hd6
def Jp (K:PySem.W.Frag):Sp:=fun vs H Q _=>match vs with
 |[.str z]=>(L z).length<=5000/\∀b:Bool,(b=true↔YI (L z))->Q (.bl b) H
 |_=>False
theorem Zga {f:Addr} {fd:FuncData} (F:Fun K "is_name" "is_name" qU f fd) (B:Bn mg) {c:Cs} (ER:Er K mg c) {Zp Zh Zi:Addr} (TP:Tp K w.params mg Zp Zh Zi) {Zc Zm:Addr} (CF:Cf K Zc Zm) (GC:Gc mg):Z4 P w K mg base CX0 1 f fd JY (Jp K):=by
 refine F.ok Zgx (fun vs H Q E h=>?_) (fun cdv A outer s H vs Q E hr h=>?_)<;>unfold Jp at h<;>split at h<;>first|exact h.elim|skip
 ·rfl
 ·rename_i z
  obtain ⟨hl,q⟩:=h
  refine ⟨_,(Zo (ZI (ZgK (Zlc Zyh Zyh Zl (ZH (zr (K:=K) rfl) (by rfl) B.len zo (Zb (qv 0) Zf)) Zl) (Zmq (ZdT Zc7 (zH (K:=K) rfl PySem.F.plainAttrs_str PySem.F.slot_str_strip PySem.F.type_str_strip ZjJ (qv 0) (Zb Zs Zf)) Zs))))),?_⟩
  have hsz:sizeLine=16777216:=sizeLine_eq
  have e1:L (Str.ofString "abcdefghijklmnopqrstuvwxyz")=[97,98,99,100,101,102,103,104,105,106,107,108,109,110,111,112,113,114,115,116,117,118,119,120,121,122]:=by decide +kernel
  have e2:L (Str.ofString "")=[]:=by decide +kernel
  have dg:(∀c∈L z,c∈[97,98,99,100,101,102,103,104,105,106,107,108,109,110,111,112,113,114,115,116,117,118,119,120,121,122])↔∀c∈L z,97<=c/\c<=122:=by
   refine forall_congr' fun c=>forall_congr' fun _=>?_
   simp only [mem_cons,List.not_mem_nil,or_false]
   omega
  simp only [L2.ZR,map_cons,map_nil,length_cons,length_nil,replicate_zero,Nat.reduceAdd,Nat.reduceSub,true_and,decide_eq_true_eq,if_false,Bool.false_eq_true,gS,ZE,tC,zP,tOp,tCB,Zx,ZL,Zwd,Jg,eqR,sc,Jz,tBM,tyV,L_T,ZmQ,Zqa,append_nil,leV,e1,e2]
  exact ⟨by omega,z7 (fun h1=>z7 (fun h2=>⟨by omega,fun l hl'=>q _ ⟨fun z=>⟨by omega,by omega,dg.mp (hl'.mp (of_decide_eq_true z))⟩,fun n=>decide_eq_true (hl'.mpr (dg.mpr n.2.2))⟩⟩) fun h2=>q false ⟨fun z=>(by cases z),fun n=>by have:=n.2.1;omega⟩) fun h1=>q false ⟨fun z=>(by cases z),fun n=>by have:=n.1;omega⟩⟩
def Yy (K:PySem.W.Frag) (c:Cs):Sp:=fun vs H Q E=>match vs with
 |[.ref t,.ref d]=>∃kept i ws,H t=some (.dK (txK kept))/\i<5/\H d=some (.dK (qz i ws))/\(∀k,(ws.getD k []).length<=5000)/\(ZgF kept i ws->∀H',Zw H H'->Q .non H')/\(¬ZgF kept i ws->∀H',Zw H H'->E (.ref c.NoName) none H')
 |_=>False
theorem Zdk {f:Addr} {fd:FuncData} (F:Fun K "check_names" "check_names" z9 f fd) (B:Bn mg) {c:Cs} (ER:Er K mg c) {Zp Zh Zi:Addr} (TP:Tp K w.params mg Zp Zh Zi) {Zc Zm:Addr} (CF:Cf K Zc Zm) (GC:Gc mg) (ZbW:Fn P w K mg base 1 "is_name" JY (Jp K)):Z4 P w K mg base (CX1 P w) 2 f fd YU (Yy K c):=by
 refine F.okX ZaV (fun vs H Q E h=>?_) (fun cdv A outer s H vs Q E hr h=>?_)<;>unfold Yy at h<;>split at h<;>first|exact h.elim|skip
 ·rfl
 ·rename_i t d
  obtain ⟨kept,i,ws,ht,hi,hd,hw,q,e⟩:=h
  refine ⟨_,(Ze (zd (Z7 (ZyJ (K:=K) rfl) (Yr (Y7 hr) (qv 1) Zs (fun _ _=>rfl)) (Jt (v:=.ref Zh) rfl TP.m_KEEPING rfl)) (Ze (zd (Zcz (Zbk (K:=K) rfl (zk ZbW (hr.mono (by decide)) (Zb (Yr (Y7 hr) (qv 1) Zs (fun _ _=>rfl)) Zf)))) (Zo (YT Z0 rfl ER.x_NoName rfl ER.m_NoName (Zb Zs Zf))) ZM)
   (Zo Zqd)) ZM)
   (Zo (ZqM (K:=K) rfl Z0.own rfl (Yv (Zb Zs (Zb Zs Zf))) (zb (i:=2) ZaV.nd rfl (by first|exact Or.inl rfl|exact Or.inr rfl)) (Zo (zd (PW.pt (ZnR (Zgw (Zir (Y7 hr) (qv 2) (qv 1))) (Zj3 (Zgw (ZkB (Y7 hr) (Yr (Y7 hr) (qv 1) (qv 2) (fun _ _=>rfl)) (qv 0)))))) (Zo (YT Z0 rfl ER.x_NoName rfl ER.m_NoName (Zb Zs Zf))) ZM))))),?_⟩
  have hsz:sizeLine=16777216:=sizeLine_eq
  have ek:∀s:String,V.str (Str.ofString s)=kV (ky s):=fun s=>by
   show _=V.str (T (cd s))
   rw [Zfa]
  simp only [L2.ZR,map_cons,map_nil,length_cons,length_nil,replicate_succ,replicate_zero,cons_append,nil_append,Nat.reduceAdd,Nat.reduceSub,if_false,Bool.false_eq_true,gS,ZE,tC,zG,zf,Zrq,YH,Zx,ZL,tFn,tB2,Zhh,trV,JJ,Zbr,rIn,Jp]
  have hin:inV (V.str (T (ws.getD 0 []))) Zbn=true↔(ws.getD 0 []=cd "keep"\/ws.getD 0 []=cd "load"):=by
   have es:∀s:String,(Str.ofString s==T (ws.getD 0 []))=true↔ws.getD 0 []=cd s:=fun s=>by
    rw [beq_iff_eq,<-Zfa,ZcI]
    exact eq_comm
   show ((Str.ofString "keep"==T (ws.getD 0 [])) || ((Str.ofString "load"==T (ws.getD 0 [])) || false))=true↔_
   rw [Bool.or_eq_true,Bool.or_eq_true,es,es]
   simp
  refine ⟨d,_,rfl,Zg3 i ws▸DGet.kys hd "word",Zh,Zbn,rfl,.inr (TP.d_KEEPING.sq H),rfl,rfl,z7 (fun h1=>?_) fun h1=>?_⟩
  ·refine ⟨d,_,rfl,Zas i ws▸DGet.kys hd "name",?_⟩
   simp only [L_T]
   refine ⟨hw 1,fun b hb=>z7 (fun h2=>⟨by decide,e (fun n=>?_) H (Zw.refl H)⟩) fun h2=>q ⟨fun _=>hb.mp (by simpa using h2),fun n=>absurd (hin.mp h1) n⟩ H (Zw.refl H)⟩
   have:=hb.mpr (n.1 (hin.mp h1))
   rw [this] at h2
   cases h2
  ·rw [hin] at h1
   simp only [length_cons,length_nil,Nat.reduceAdd,if_false,Bool.false_eq_true,ZE,tC,zf,Zz,YH,Zx,ZL,Zbv,ZwV,JJ,Zbr,ZqU,ZjZ,tB,ZrL,ZAy]
   refine ⟨by omega,?_⟩
   intro p hp
   have np:∀{b:Addr} {o:HO},H b=some o->b≠p:=fun h=>Zq h hp
   have s1:Zw H (upd H p (HO.tup [V.str (Str.ofString "name"),V.str (Str.ofString "other")])):=Zw.updN hp
   refine ⟨_,SqT.of Zj,fun k σ' H'=>H'=upd H p (HO.tup [V.str (Str.ofString "name"),V.str (Str.ofString "other")])/\(∃x,σ'=[some (V.ref t),some (V.ref d),x])/\(1<=k->(zC kept (ws.getD 1 [])).isSome=true)/\(2<=k->i=4->(zC kept (ws.getD 2 [])).isSome=true),⟨rfl,⟨_,rfl⟩,fun z=>absurd z (by decide),fun z=>absurd z (by decide)⟩,?_,?_,?_⟩
   ·rintro k σ' H' _ ⟨rfl,_⟩
    exact SqT.of Zj
   ·rintro k x σ' H' hx ⟨rfl,⟨y,rfl⟩,g1,g2⟩
    simp only [true_and,set_cons_zero,set_cons_succ,gS]
    have hd':=s1 d _ hd
    have ht':=s1 t _ ht
    match k,hx,g1,g2 with
    |0,hx,_,_=>
     cases Option.some.inj hx
     refine ⟨d,_,rfl,DGet.kys hd' "name",_,rfl,?_⟩
     rw [Zas]
     refine Zht ⟨d,_,rfl,Zas i ws▸DGet.kys hd' "name",t,_,rfl,DGet.k (k:=.inr (T (ws.getD 1 []))) ht',_,rfl,?_⟩
     rw [Zaa,Option.isSome_map]
     refine z7 (fun h2=>⟨by decide,e (fun n=>?_) _ s1⟩) fun h2=>⟨⟨_,rfl⟩,fun _=>by rw [Bool.not_eq_true',Bool.not_eq_false] at h2;exact h2,fun z=>absurd z (by decide)⟩
     have:=(n.2 h1).1
     rw [this] at h2
     cases h2
    |1,hx,g1,_=>
     cases Option.some.inj hx
     refine ⟨d,_,rfl,DGet.kys hd' "other",_,rfl,?_⟩
     rw [ZfI hi]
     by_cases h4:i=4
     ·rw [if_pos h4]
      refine Zht ⟨d,_,rfl,(ZfI hi ws).trans (if_pos h4)▸DGet.kys hd' "other",t,_,rfl,DGet.k (k:=.inr (T (ws.getD 2 []))) ht',_,rfl,?_⟩
      rw [Zaa,Option.isSome_map]
      refine z7 (fun h2=>⟨by decide,e (fun n=>?_) _ s1⟩) fun h2=>⟨⟨_,rfl⟩,fun _=>g1 (by decide),fun _ _=>by rw [Bool.not_eq_true',Bool.not_eq_false] at h2;exact h2⟩
      have:=(n.2 h1).2 h4
      rw [this] at h2
      cases h2
     ·rw [if_neg h4]
      exact Zd0 ⟨⟨_,rfl⟩,fun _=>g1 (by decide),fun _ z=>absurd z h4⟩
    |k+2,hx,_,_=>cases hx
   ·rintro σ' H' ⟨rfl,_,g1,g2⟩
    exact q ⟨fun z=>absurd z h1,fun _=>⟨g1 (by decide),g2 (by decide)⟩⟩ _ s1
def zZ (K:PySem.W.Frag) (c:Cs):Sp:=fun vs H Q E=>match vs with
 |[.ref t,.str n,.str x]=>∃kept,H t=some (.dK (txK kept))/\kept.length<=1000/\(L x).length<=5000/\((L x).length<=300->Q (.str (Str.ofString "ok")) (upd H t (.dK (txK (Zcc kept (L n) (L x))))))/\(300<(L x).length->E (.ref c.TooLong) none H)
 |_=>False
theorem Zep {f:Addr} {fd:FuncData} (F:Fun K "keep_text" "keep_text" Y3 f fd) (B:Bn mg) {c:Cs} (ER:Er K mg c) {Zp Zh Zi:Addr} (TP:Tp K w.params mg Zp Zh Zi) {Zc Zm:Addr} (CF:Cf K Zc Zm) (GC:Gc mg):Z4 P w K mg base (CX1 P w) 1 f fd YX (zZ K c):=by
 refine F.okX Zel (fun vs H Q E h=>?_) (fun cdv A outer s H vs Q E hr h=>?_)<;>unfold zZ at h<;>split at h<;>first|exact h.elim|skip
 ·rfl
 ·rename_i t n x
  obtain ⟨kept,ht,hk,hxl,q,e⟩:=h
  refine ⟨_,(Ze (zd (Z7 Zd4 (ZH (zr (K:=K) rfl) (by rfl) B.len zo (Zb (qv 2) Zf)) (ZhM rfl GC.MOST_SIGNS)) (Zo (YT Z0 rfl ER.x_TooLong rfl ER.m_TooLong (Zb Zs Zf))) ZM)
   (Ze (Zei (Y7 hr) (qv 0) (qv 1) (qv 2) rfl)
   (Zo (ZI Zs)))),?_⟩
  have hsz:sizeLine=16777216:=sizeLine_eq
  simp only [L2.ZR,map_cons,map_nil,length_cons,length_nil,replicate_zero,Nat.reduceAdd,Nat.reduceSub,decide_eq_true_eq,gS,ZE,tC,zG,zf,zP,YH,tCB,Zx,ZL,tB2,Jg,Jz,JJ,ZfL,append_nil,gtV]
  refine ⟨by omega,z7 (fun h1=>⟨by decide,e (by omega)⟩) fun h1=>⟨t,_,rfl,.inl ⟨_,.inr (T (L n)),ht,by rw [T_L];rfl,by unfold txK;rw [length_map];omega,rfl⟩,?_⟩⟩
  have:=Zd9 kept (L n) (L x)
  rw [T_L,T_L] at this
  rw [T_L,this]
  exact q (by omega)
def zn (K:PySem.W.Frag) (c:Cs):Sp:=fun vs H Q E=>match vs with
 |[.ref t,.ref d]=>∃kept ws,H t=some (.dK (txK kept))/\kept.length<=1000/\H d=some (.dK (qz 0 ws))/\(ws.getD 2 []).length<=5000/\((ws.getD 2 []).length<=300->Q (.str (Str.ofString "ok")) (upd H t (.dK (txK (Zcc kept (ws.getD 1 []) (ws.getD 2 []))))))/\(300<(ws.getD 2 []).length->E (.ref c.TooLong) none H)
 |_=>False
theorem ZdA {f:Addr} {fd:FuncData} (F:Fun K "answer_keep" "answer_keep" Ya f fd) (B:Bn mg) {c:Cs} (ER:Er K mg c) {Zp Zh Zi:Addr} (TP:Tp K w.params mg Zp Zh Zi) {Zc Zm:Addr} (CF:Cf K Zc Zm) (GC:Gc mg) (Y1:FnX P w K mg base 1 "keep_text" YX (zZ K c)):Z4 P w K mg base (CX1 P w) 2 f fd YK (zn K c):=by
 refine F.okX Zdv (fun vs H Q E h=>?_) (fun cdv A outer s H vs Q E hr h=>?_)<;>unfold zn at h<;>split at h<;>first|exact h.elim|skip
 ·rfl
 ·rename_i t d
  obtain ⟨kept,ws,ht,hk,hd,hxl,q,e⟩:=h
  refine ⟨_,(Zo (ZI (qh Z0.toTk Y1 (hr.mono (by decide)) (Zb (qv 0) (Zb (Yr (Y7 hr) (qv 1) Zs (fun _ _=>rfl)) (Zb (Yr (Y7 hr) (qv 1) Zs (fun _ _=>rfl)) Zf)))))),?_⟩
  have ek:∀s:String,V.str (Str.ofString s)=kV (ky s):=fun s=>by
   show _=V.str (T (cd s))
   rw [Zfa]
  simp only [L2.ZR,map_cons,map_nil,length_cons,length_nil,replicate_zero,Nat.reduceAdd,Nat.reduceSub,gS,ZE,tC,zP,Zx,ZL,Zcd,Zbr,append_nil]
  refine ⟨d,_,rfl,Zas 0 ws▸DGet.kys hd "name",d,_,rfl,ZhB ws▸DGet.kys hd "rest",?_⟩
  simp only [zZ,L_T]
  exact ⟨kept,ht,hk,hxl,q,e⟩
def zq (K:PySem.W.Frag) (c:Cs):Sp:=fun vs H Q E=>match vs with
 |[.ref t,.ref d]=>∃kept i ws x,H t=some (.dK (txK kept))/\H d=some (.dK (qz i ws))/\zC kept (ws.getD 1 [])=some x/\Q (.str (T x)) H
 |_=>False
theorem ZdD {f:Addr} {fd:FuncData} (F:Fun K "answer_text" "answer_text" Yd f fd) (B:Bn mg) {c:Cs} (ER:Er K mg c) {Zp Zh Zi:Addr} (TP:Tp K w.params mg Zp Zh Zi) {Zc Zm:Addr} (CF:Cf K Zc Zm) (GC:Gc mg):Z4 P w K mg base (CX1 P w) 1 f fd YM (zq K c):=by
 refine F.okX ZdE (fun vs H Q E h=>?_) (fun cdv A outer s H vs Q E hr h=>?_)<;>unfold zq at h<;>split at h<;>first|exact h.elim|skip
 ·rfl
 ·rename_i t d
  obtain ⟨kept,i,ws,x,ht,hd,hx,q⟩:=h
  refine ⟨_,(Zo (ZI (Yr (Y7 hr) (qv 0) (Yr (Y7 hr) (qv 1) Zs (fun _ _=>rfl)) (fun _ _=>rfl)))),?_⟩
  have ek:∀s:String,V.str (Str.ofString s)=kV (ky s):=fun s=>by
   show _=V.str (T (cd s))
   rw [Zfa]
  simp only [L2.ZR,map_cons,map_nil,length_cons,length_nil,replicate_zero,Nat.reduceAdd,Nat.reduceSub,gS,ZE,tC,zP,Zbr,append_nil]
  have hv:z6 (txK kept) (.inr (T (ws.getD 1 [])))=some (V.str (T x)):=by rw [Zaa,hx];rfl
  exact ⟨d,_,rfl,Zas i ws▸DGet.kys hd "name",t,_,rfl,hv▸DGet.k (k:=.inr (T (ws.getD 1 []))) ht,q⟩
def ZY (K:PySem.W.Frag) (c:Cs):Sp:=fun vs H Q E=>match vs with
 |[.int p,.int l]=>((0<=p/\p<=l)->Q .non H)/\(¬(0<=p/\p<=l)->E (.ref c.NoPlace) none H)
 |_=>False
theorem Zdx {f:Addr} {fd:FuncData} (F:Fun K "check_place" "check_place" Yb f fd) (B:Bn mg) {c:Cs} (ER:Er K mg c) {Zp Zh Zi:Addr} (TP:Tp K w.params mg Zp Zh Zi) {Zc Zm:Addr} (CF:Cf K Zc Zm) (GC:Gc mg):Z4 P w K mg base (CX1 P w) 1 f fd zi (ZY K c):=by
 refine F.okX Zdj (fun vs H Q E h=>?_) (fun cdv A outer s H vs Q E hr h=>?_)<;>unfold ZY at h<;>split at h<;>first|exact h.elim|skip
 ·rfl
 ·rename_i p l
  obtain ⟨q,e⟩:=h
  refine ⟨_,(Zo (zd (PW.pt (ZfW (Z7 Zfw (qv 0) Zl) (Ze2 (Z7 Zd4 (qv 0) (qv 1))))) (Zo (YT Z0 rfl ER.x_NoPlace rfl ER.m_NoPlace (Zb Zs Zf))) ZM)),?_⟩
  simp only [L2.ZR,map_cons,map_nil,length_cons,length_nil,replicate_zero,cons_append,nil_append,Nat.reduceAdd,Nat.reduceSub,decide_eq_true_eq,if_true,gS,ZE,tC,zf,YH,Zx,ZL,tB2,tOr,Jg,ltV,JJ]
  refine z7 (fun h0=>⟨by decide,e (by omega)⟩) fun h0=>z7 (fun h1=>⟨by decide,e (by omega)⟩) fun h1=>q ⟨by omega,by omega⟩
def Jj (K:PySem.W.Frag):Sp:=fun vs H Q _=>match vs with
 |[.str z]=>(L z).length<=1000/\∀p H' ts rs,Zw H H'->H p=none->H' p=some (.lst (ts.map V.ref))->Zat H' ts rs->flat rs=L z->YS rs->Q (.ref p) H'
 |_=>False
theorem ZgT {f:Addr} {fd:FuncData} (F:Fun K "runs_of" "runs_of" q9 f fd) (B:Bn mg) {c:Cs} (ER:Er K mg c) {Zp Zh Zi:Addr} (TP:Tp K w.params mg Zp Zh Zi) {Zc Zm:Addr} (CF:Cf K Zc Zm) (GC:Gc mg):Z4 P w K mg base CX0 1 f fd JT (Jj K):=by
 refine F.ok Jr (fun vs H Q E h=>?_) (fun cdv A outer s H vs Q E hr h=>?_)<;>unfold Jj at h<;>split at h<;>first|exact h.elim|skip
 ·rfl
 ·rename_i z
  obtain ⟨hl,q⟩:=h
  refine ⟨_,(Ze (Zu (i:=1) Jr.nd rfl (by first|exact Or.inl rfl|exact Or.inr rfl) (ZcC Zf))
   (Ze (Zu (i:=2) Jr.nd rfl (by first|exact Or.inl rfl|exact Or.inr rfl) Zl)
   (Ze (ZqL PassesOwn.never rfl B.range (Zb Zl (Zb (Zv ZN (ZH (zr (K:=K) rfl) (by rfl) B.len zo (Zb (qv 0) Zf)) Zl) Zf)) (zb (i:=3) Jr.nd rfl (by first|exact Or.inl rfl|exact Or.inr rfl)) (Zo (zd (PW.pt (ZfW (Z7 Zc7 (qv 3) (ZH (zr (K:=K) rfl) (by rfl) B.len zo (Zb (qv 0) Zf))) (Ze2 (Z7 Zfr (ZX (Z1 (K:=K) rfl) (qv 0) (qv 3) (fun _ _=>rfl)) (ZX (Z1 (K:=K) rfl) (qv 0) (qv 2) (fun _ _=>rfl)))))) (Ze (qM (zH (K:=K) rfl PySem.F.plainAttrs_list PySem.F.slot_list_append PySem.F.type_list_append Zaj (qv 1) (Zb (Yv (Zb (ZX (Z1 (K:=K) rfl) (qv 0) (qv 2) (fun _ _=>rfl)) (Zb (Zv ZeD (qv 3) (qv 2)) Zf))) Zf)))
   (Zo (Zu (i:=2) Jr.nd rfl (by first|exact Or.inl rfl|exact Or.inr rfl) (qv 3)))) ZM)))
   (Zo (ZI (qv 1)))))),?_⟩
  simp only [L2.ZR,map_cons,map_nil,length_cons,length_nil,replicate_succ,replicate_zero,cons_append,nil_append,Nat.reduceAdd,Nat.reduceSub,set_cons_zero,set_cons_succ,gS,ZE,tC,zG,Z3,Zz,tOp,tCB,Zx,ZL,Zh3,Y5,Jz,ZrV]
  have hsz:sizeLine=16777216:=sizeLine_eq
  refine ⟨by omega,fun p hp=>⟨by omega,⟨by omega,by omega,by omega,by omega⟩,?_⟩⟩
  refine ⟨fun i σ H'=>∃(st:Nat) (v:Option V) (ts:List Addr) (rs:List (Nat×Nat)),σ=[some (V.str z),some (V.ref p),some (V.int st),v]/\Zw H H'/\H' p=some (.lst (ts.map V.ref))/\Zat H' ts rs/\YS rs/\flat rs=(L z).take st/\st<=(L z).length/\ts.length<=i/\
   (i<(L z).length->st<=i/\(∀j,st<=j->j<=i->(L z).getD j 0=(L z).getD st 0)/\∀a,rs.getLast?=some a->a.1≠(L z).getD st 0)/\(i=(L z).length->st=i),
   ⟨0,_,[],[],rfl,Zw.updN hp,Zj,Zem _,Ze3,rfl,Nat.zero_le _,Nat.le_refl _,fun _=>⟨Nat.le_refl _,fun j h1 h2=>by rw [show j=0 by omega],fun a ha=>by cases ha⟩,fun _=>rfl⟩,?_,?_⟩
  ·rintro i σ H' hi ⟨st,v,ts,rs,rfl,sm,h1,ra,gd,fl,hst,htl,inv,_⟩
   obtain ⟨i1,i2,i3⟩:=inv (by omega)
   have hin:i<(L z).length:=by omega
   simp only [length_cons,length_nil,Nat.reduceAdd,true_and,decide_eq_true_eq,if_true,String.reduceEq,set_cons_zero,set_cons_succ,gS,ZE,zG,zf,Z3,Zz,ZaM,YH,tOp,tCB,Zx,ZL,Zbv,tB2,tOr,Jg,eqR,neR,sc,ixV,Jz,tBM,tyV,L_T,ZaK]
   have step:∀(e:i+1=(L z).length\/(L z).getD (i+1) 0≠(L z).getD st 0) (t:Addr),H' t=none->
    ∃l xs y,V.ref p=V.ref l/\[V.ref t]=[y]/\upd H' t (HO.tup [V.str (T [(L z).getD st 0]),V.int (1+(i:Int)-st)]) l=some (HO.lst xs)/\xs.length<sizeLine/\
     ∃(st':Nat) (v':Option V) (ts':List Addr) (rs':List (Nat×Nat)),[some (V.str z),some (V.ref p),some (V.int (1+(i:Int))),some (V.int (1+(i:Int)))]=[some (V.str z),some (V.ref p),some (V.int st'),v']/\
      Zw H (upd (upd H' t (HO.tup [V.str (T [(L z).getD st 0]),V.int (1+(i:Int)-st)])) l (HO.lst (xs++[y])))/\upd (upd H' t (HO.tup [V.str (T [(L z).getD st 0]),V.int (1+(i:Int)-st)])) l (HO.lst (xs++[y])) p=some (.lst (ts'.map V.ref))/\
      Zat (upd (upd H' t (HO.tup [V.str (T [(L z).getD st 0]),V.int (1+(i:Int)-st)])) l (HO.lst (xs++[y]))) ts' rs'/\YS rs'/\flat rs'=(L z).take st'/\st'<=(L z).length/\ts'.length<=i+1/\
      (i+1<(L z).length->st'<=i+1/\(∀j,st'<=j->j<=i+1->(L z).getD j 0=(L z).getD st' 0)/\∀a,rs'.getLast?=some a->a.1≠(L z).getD st' 0)/\(i+1=(L z).length->st'=i+1):=by
    intro e t ht
    have np:p≠t:=Zq h1 ht
    have hp2:upd H' t (HO.tup [V.str (T [(L z).getD st 0]),V.int (1+(i:Int)-st)]) p=some (HO.lst (ts.map V.ref)):=by rw [Zn np];exact h1
    refine ⟨p,_,_,rfl,rfl,hp2,by rw [length_map];omega,i+1,_,ts++[t],rs++[((L z).getD st 0,i+1-st)],by rw [show (1+(i:Int))=((i+1:Nat):Int) by omega],ZhT (Zw.upd sm ht) hp,?_,?_,?_,?_,by omega,by simp;omega,fun h=>⟨Nat.le_refl _,fun j k1 k2=>by rw [show j=i+1 by omega],fun a ha=>?_⟩,fun h=>rfl⟩
    ·rw [Zj,map_append]
     rfl
    ·refine ZdQ (ZbD ra ((ZbJ (Zw.updN ht)).trans (ZfH hp2))) ?_
     rw [Zn (Ne.symm np),Zj,show (1+(i:Int)-st)=((i+1-st:Nat):Int) by omega]
    ·exact ZfM gd (by show 1<=i+1-st;omega) i3
    ·rw [ZbL,fl]
     exact (Zjv (by omega) (by omega) fun j k1 k2=>i2 j k1 (by omega)).symm
    ·rw [List.getLast?_concat] at ha
     cases ha
     rcases e with e|e
     ·omega
     ·exact Ne.symm e
   have stN:atI (L z) (st:Int)=some ((L z).getD st 0):=zJ 0 (by omega) (by omega)
   refine ⟨by omega,z7 (fun e=>⟨.inl ⟨_,SqL.of h1⟩,by omega,_,stN,by omega,fun t ht=>step (.inl (by omega)) t ht⟩) fun e=>⟨by omega,_,zJ 0 (by omega) (by omega),by omega,_,stN,?_⟩⟩
   rw [show (1+(i:Int)).toNat=i+1 by omega]
   refine z7 (fun e2=>⟨.inl ⟨_,SqL.of h1⟩,by omega,_,stN,by omega,fun t ht=>step (.inr fun z=>by rw [z] at e2;simp at e2) t ht⟩) fun e2=>?_
   have e3:(L z).getD (i+1) 0=(L z).getD st 0:=by simpa using e2
   refine ⟨st,_,ts,rs,rfl,sm,h1,ra,gd,fl,hst,by omega,fun h=>⟨by omega,fun j k1 k2=>?_,i3⟩,fun h=>by omega⟩
   by_cases hj:j<=i
   ·exact i2 j k1 hj
   ·rw [show j=i+1 by omega]
    exact e3
  ·rintro σ H' ⟨st,v,ts,rs,rfl,sm,h1,ra,gd,fl,hst,htl,_,inv⟩
   simp only [gS,ZE,zP]
   refine q p H' ts rs sm hp h1 ra ?_ gd
   rw [fl,List.take_of_length_le (by omega)]
def qb (K:PySem.W.Frag) (c:Cs):Sp:=fun vs H Q E=>match vs with
 |[.str z,.int h]=>(L z).length<=300/\(¬(0<=h/\h<=(L z).length)->E (.ref c.NoPlace) none H)/\((0<=h/\h<=(L z).length)->∀rs,YS rs->flat rs=L z->∀H',Zw H H'->Q (.str (T (ZJ h++32::wr rs))) H')
 |_=>False
theorem ZhG {f:Addr} {fd:FuncData} (F:Fun K "packed" "packed" JG f fd) (B:Bn mg) {c:Cs} (ER:Er K mg c) {Zp Zh Zi:Addr} (TP:Tp K w.params mg Zp Zh Zi) {Zc Zm:Addr} (CF:Cf K Zc Zm) (GC:Gc mg) (ZW:FnX P w K mg base 1 "check_place" zi (ZY K c)) (ZbO:Fn P w K mg base 1 "runs_of" JT (Jj K)):Z4 P w K mg base (CX1 P w) 2 f fd JH (qb K c):=by
 refine F.okX ZdP (fun vs H Q E h=>?_) (fun cdv A outer s H vs Q E hr h=>?_)<;>unfold qb at h<;>split at h<;>first|exact h.elim|skip
 ·rfl
 ·rename_i z h
  obtain ⟨hl,e,q⟩:=h
  refine ⟨_,(Ze (qM (qh Z0.toTk ZW (hr.mono (by decide)) (Zb (qv 1) (Zb (ZH (zr (K:=K) rfl) (by rfl) B.len zo (Zb (qv 0) Zf)) Zf))))
   (Ze (ZK (ZoL (i₀:=2) (K:=K) rfl (own:=["sign","many"]) (cp:=[]) rfl rfl rfl (by decide +kernel) (by decide +kernel) trivial (zk ZbO (hr.mono (by decide)) (Zb (qv 0) Zf)) (by decide) (fun _ _ _ _=>zb (i:=0) (show List.Nodup (["sign","many"]:List Str) by decide +kernel) rfl (Or.inl rfl) (Or.inr rfl)) (fun _ _ _ _=>zb (i:=1) (show List.Nodup (["sign","many"]:List Str) by decide +kernel) rfl (Or.inl rfl) (Or.inr rfl)) (fun _ _ _ _=>ZgP) (fun _ _ _ _=>(Zkh (ZcK (Zie (qv 0)) (ZcK (Zie (qv 1)) (ZcK Zs Zof))))) ZdP.nd rfl rfl))
   (Zo (ZI (Zv ZN (Zkh (ZcK (Zie (qv 1)) (ZcK Zs Zof))) (zH (K:=K) rfl PySem.F.plainAttrs_str PySem.F.slot_str_join PySem.F.type_str_join (Zb1 (K:=K) rfl) Zs (Zb (qv 2) Zf))))))),?_⟩
  have hsz:sizeLine=16777216:=sizeLine_eq
  simp only [L2.ZR,map_cons,map_nil,length_cons,length_nil,replicate_succ,replicate_zero,cons_append,nil_append,Nat.reduceAdd,Nat.reduceSub,gS,ZE,zG,ZaM,tCB,Zx,ZL,Jz,Zcd,ZY]
  refine ⟨by omega,fun hh=>?_,e⟩
  obtain ⟨h,rfl⟩:∃k:Nat,h=(k:Int):=⟨h.toNat,by omega⟩
  refine zI (fun σ' H'=>Zw H H'/\∃p rs,YS rs/\flat rs=L z/\H' p=some (.lst ((rs.map fun r:Nat×Nat=>r.1::(ZJ (r.2:Nat)++[59])).map fun l=>V.str (T l)))/\σ'=[some (V.str z),some (V.int (h:Int)),some (V.ref p)]) ?_ ?_
  ·simp only [map_nil,length_nil,replicate_succ,replicate_zero,nil_append,if_true,set_cons_zero,set_cons_succ,gS,ZE,tC,Z3,Zz,Zx,ZL,tFn,L_T,ZlM,Zii,ZvT,ZcJ,J6,tCP,append_nil,Jj]
   refine ⟨by omega,fun p H1 ts rs sm hp h1 ra fl gd=>?_⟩
   have hts:=ra.1
   have rl:=Zb6 gd
   rw [fl] at rl
   refine ⟨_,SqL.of h1,by rw [length_map];omega,fun i H2 acc=>H2=H1/\acc=((rs.take i).map fun r:Nat×Nat=>r.1::(ZJ (r.2:Nat)++[59])).map fun l=>V.str (T l),⟨rfl,rfl⟩,?_,?_,?_⟩
   ·rintro i H2 acc _ ⟨rfl,_⟩
    exact SqL.of h1
   ·rintro i r H2 acc hr2 ⟨rfl,rfl⟩
    rw [List.getElem?_map] at hr2
    obtain ⟨t,et,rfl⟩:=Option.map_eq_some_iff.mp hr2
    have hi:i<rs.length:=by rw [<-hts];exact (List.getElem?_eq_some_iff.mp et).1
    have ei:rs[i]?=some rs[i]:=List.getElem?_eq_getElem hi
    obtain ⟨t',et',ht⟩:=ra.2 i rs[i] ei
    rw [et] at et'
    cases Option.some.inj et'
    have hm:=qe (List.getElem_mem hi) (by rw [fl];exact hl)
    refine ⟨t,_,_,rfl,SqT.of ht,?_⟩
    simp only [length_cons,length_nil,cons_append,nil_append,Nat.reduceAdd,true_and,L_T]
    have f1:=(Zg2 rs[i].2 hm).1
    have e59:L (Str.ofString ";")=[59]:=by decide +kernel
    rw [e59]
    refine ⟨by omega,by omega,ZkH _ hm,by omega,by rw [length_singleton];omega,by rw [length_append,length_singleton];omega,?_⟩
    rw [List.take_succ,ei,map_append,map_append]
    rfl
   ·rintro H2 acc ⟨rfl,rfl⟩ l hl2
    refine ⟨sm.upd hl2,l,rs,gd,fl,?_,rfl⟩
    rw [Zj,length_map,hts,List.take_length]
  rintro _ H1 ⟨sm,p,rs,gd,fl,h1,rfl⟩
  simp only [length_nil,nil_append,true_and,gS,ZE,tC,zP,tOp,Zx,ZL,Y5,ZcV,tBM,tyV,L_T,ZlM,Zii,ZvT]
  have f1:=(Zg2 h (by omega)).1
  have e32:L (Str.ofString " ")=[32]:=by decide +kernel
  have rl:=Zb6 gd
  have wl:=Zfm (rs:=rs) fun r hr=>qe hr (by rw [fl];exact hl)
  rw [fl] at rl
  rw [e32,ZcU]
  refine ⟨ZkH h (by omega),by omega,by rw [length_singleton];omega,by rw [length_append,length_singleton];omega,_,SqL.of h1,?_,?_,?_⟩
  ·rw [length_nil,Nat.mul_zero,<-List.length_flatten]
   show (wr rs).length+0<=_
   omega
  ·rw [qy,length_append,length_singleton]
   show _+(wr rs).length<=_
   omega
  ·rw [qy,append_assoc]
   exact q hh rs gd fl _ sm
def qi (K:PySem.W.Frag) (c:Cs):Sp:=fun vs H Q E=>match vs with
 |[.str z]=>(L z).length<=1000000/\(∀rs,L z=wr rs->(∀r∈rs,ZbS (ZJ (r.2:Nat)))->∀p ts H',Zw H H'->H p=none->H' p=some (.lst (ts.map V.ref))->Zat H' ts rs->Q (.ref p) H')/\
    ((∀rs,L z=wr rs->¬ ∀r∈rs,ZbS (ZJ (r.2:Nat)))->∀H',Zw H H'->E (.ref c.NoRow) none H')
 |_=>False
theorem Zfk {f:Addr} {fd:FuncData} (F:Fun K "read_runs" "read_runs" Y4 f fd) (B:Bn mg) {c:Cs} (ER:Er K mg c) {Zp Zh Zi:Addr} (TP:Tp K w.params mg Zp Zh Zi) {Zc Zm:Addr} (CF:Cf K Zc Zm) (GC:Gc mg) (zy:FnX P w K mg base 1 "number_in" Yo (ze K c)):Z4 P w K mg base (CX1 P w) 2 f fd qD (qi K c):=by
 refine F.okX qa (fun vs H Q E h=>?_) (fun cdv A outer s H vs Q E hr h=>?_)<;>unfold qi at h<;>split at h<;>first|exact h.elim|skip
 ·rfl
 ·rename_i z
  obtain ⟨hl,q,e⟩:=h
  refine ⟨_,(Ze (Zu (i:=1) qa.nd rfl (by first|exact Or.inl rfl|exact Or.inr rfl) (ZcC Zf))
   (Ze (Zu (i:=2) qa.nd rfl (by first|exact Or.inl rfl|exact Or.inr rfl) Zl)
   (Ze (Zhl Z0.own (Z7 Zfw (qv 2) (ZH (zr (K:=K) rfl) (by rfl) B.len zo (Zb (qv 0) Zf))) (Ze (ZK (Zu (i:=3) qa.nd rfl (by first|exact Or.inl rfl|exact Or.inr rfl) (zH (K:=K) rfl PySem.F.plainAttrs_str PySem.F.slot_str_find PySem.F.type_str_find ZtY (qv 0) (Zb Zs (Zb (Zv ZN (qv 2) Zl) Zf)))))
   (Ze (zd (Z7 Zfw (qv 3) Zl) (Zo (YT Z0 rfl ER.x_NoRow rfl ER.m_NoRow (Zb Zs Zf))) ZM)
   (Ze (qM (zH (K:=K) rfl PySem.F.plainAttrs_list PySem.F.slot_list_append PySem.F.type_list_append Zaj (qv 1) (Zb (Yv (Zb (ZX (Z1 (K:=K) rfl) (qv 0) (qv 2) (fun _ _=>rfl)) (Zb (qh Z0.toTk zy (hr.mono (by decide)) (Zb (qj (ZbK (K:=K) rfl) (qv 0) (ZcZ (Zv ZN (qv 2) Zl)) (ZcZ (qv 3))) Zf)) Zf))) Zf)))
   (Zo (Zu (i:=2) qa.nd rfl (by first|exact Or.inl rfl|exact Or.inr rfl) (Zv ZN (qv 3) Zl)))))))
   (Zo (ZI (qv 1)))))),?_⟩
  have hsz:sizeLine=16777216:=sizeLine_eq
  have e59:L (Str.ofString ";")=[59]:=by decide +kernel
  simp only [L2.ZR,map_cons,map_nil,length_cons,length_nil,replicate_succ,replicate_zero,cons_append,nil_append,Nat.reduceAdd,Nat.reduceSub,decide_eq_true_eq,set_cons_zero,set_cons_succ,ZE,tC,zG,Z3,Zz,zP,tCB,Zx,ZL,Zh3,tB2,ltV,Jz,tWh]
  refine ⟨by omega,fun p hp=>?_⟩
  have g0:∀r∈([]:List (Nat×Nat)),ZbS (ZJ (r.2:Nat)):=fun r hr=>by cases hr
  refine ⟨fun k σ H'=>∃(done:List (Nat×Nat)) (qP:List Nat) (v:Option V) (ts:List Addr),k=qP.length/\L z=wr done++qP/\(∀r∈done,ZbS (ZJ (r.2:Nat)))/\Zw H H'/\H' p=some (.lst (ts.map V.ref))/\Zat H' ts done/\σ=[some (V.str z),some (V.ref p),some (V.int ((wr done).length:Int)),v],⟨_,[],L z,none,[],rfl,rfl,g0,Zw.updN hp,Zj,Zem _,rfl⟩,?_⟩
  rintro k σ H' ⟨done,qP,v,ts,rfl,hz,gd,sm,h1,ra,rfl⟩
  have hts:=ra.1
  have dl:=Zdr done
  have zl:(L z).length=(wr done).length+qP.length:=by rw [hz,length_append]
  simp only [gS]
  refine ⟨by omega,?_⟩
  cases qP with
  |nil=>
   rw [append_nil] at hz
   exact z7 (fun w=>absurd w (by rw [hz];omega)) fun _=>q done hz gd p ts H' sm hp h1 ra
  |cons d t=>
   rw [length_cons] at zl
   refine z7 (fun _=>?_) fun w=>absurd (by omega) w
   refine zI (fun σ' H2=>H2=H'/\∃r:Int,((r= -1/\∀x∈t,x≠59)\/∃w t',t=w++59::t'/\(∀x∈w,x≠59)/\r=(((wr done).length+1+w.length:Nat):Int))/\σ'=[some (V.str z),some (V.ref p),some (V.int ((wr done).length:Int)),some (V.int r)]) ?_ ?_
   ·simp only [true_and,set_cons_zero,set_cons_succ,gS,ZE,tC,Z3,Zz,tOp,Zx,ZL,Y5,tBM,tyV,ZxQ]
    refine ⟨59,e59,by omega,fun r hr=>?_⟩
    rw [show (((wr done).length:Int)+1).toNat=(wr done).length+1 by omega] at hr
    exact ⟨r,ZlI hz hr,rfl⟩
   rintro _ H2 ⟨rfl,r,hr,rfl⟩
   have bad:∀{rs:List (Nat×Nat)},L z=wr rs->∃n rs',t=ZJ ((n:Nat):Int)++59::wr rs'/\rs=done++(d,n)::rs':=fun {rs} h=>by
    obtain ⟨tail,e1,e2⟩:=Zbb (h.symm.trans hz)
    obtain ⟨n,rs',e3,e4⟩:=Zgt e2.symm
    exact ⟨n,rs',e4,by rw [e1,e3]⟩
   rcases hr with ⟨rfl,hn⟩|⟨w,t',et,hw,rfl⟩
   ·simp only [length_cons,length_nil,Nat.reduceAdd,Int.reduceLT,true_and,if_true,String.reduceEq,decide_true,set_cons_zero,set_cons_succ,gS,ZE,tC,zG,zf,Z3,Zz,ZaM,YH,tOp,Zx,ZL,Zbv,tB2,tSl,pT,Y5,ltV,ixV,slV,tBM,tyV,JJ,Zcd,ZaK]
    refine ⟨by decide,e (fun rs h g=>?_) H2 sm⟩
    obtain ⟨n,rs',e4,_⟩:=bad h
    exact hn 59 (by rw [e4];simp) rfl
   ·simp only [length_cons,length_nil,Nat.reduceAdd,true_and,decide_eq_true_eq,String.reduceEq,set_cons_zero,set_cons_succ,gS,ZE,tC,zG,zf,Z3,Zz,ZaM,YH,tOp,Zx,ZL,Zbv,tB2,tSl,pT,Y5,ltV,ixV,slV,tBM,tyV,L_T,JJ,Zcd,ZaK,ze]
    have tl:t.length=w.length+1+t'.length:=by
     rw [et,length_append,length_cons]
     omega
    have ec:cut (L z) (some (((wr done).length:Int)+1)) (some (((wr done).length+1+w.length:Nat):Int))=w:=by
     rw [show (((wr done).length:Int)+1)=(((wr done).length+1:Nat):Int) by omega,show (((wr done).length+1+w.length:Nat):Int)=(((wr done).length+1:Nat):Int)+(w.length:Int) by omega,LP.Zkd]
     rw [hz,et,show wr done++d::(w++59::t')=(wr done++[d])++(w++59::t') by simp,show (wr done).length+1=(wr done++[d]).length by simp,List.drop_left,List.take_left]
    have ac:atI (L z) ((wr done).length:Int)=some d:=by
     unfold atI ixN
     rw [if_pos (by omega),if_pos (by omega),Int.toNat_natCast,Option.bind_some,hz,List.getElem?_append_right (Nat.le_refl _),Nat.sub_self]
     rfl
    rw [ec]
    refine z7 (fun w=>absurd w (by omega)) fun _=>⟨.inl ⟨_,SqL.of h1⟩,by omega,_,ac,by omega,by omega,fun g=>⟨by omega,fun tt htt=>?_⟩,fun g=>?_⟩
    ·have np:p≠tt:=Zq h1 htt
     have hp2:upd H2 tt (HO.tup [V.str (T [d]),V.int ((digitsVal w:Nat):Int)]) p=some (HO.lst (ts.map V.ref)):=(Zn np).trans h1
     have gn:=Zpp g
     refine ⟨p,_,_,rfl,rfl,hp2,by rw [length_map];omega,t'.length,by omega,done++[(d,digitsVal w)],t',some (V.int (((wr done).length+1+w.length:Nat):Int)),ts++[tt],rfl,?_,?_,ZhT (Zw.upd sm htt) hp,?_,?_,?_⟩
     ·rw [ZcS,gn,hz,et]
      simp
     ·intro r hr
      rcases mem_append.mp hr with y|y
      ·exact gd r y
      ·rw [mem_singleton.mp y]
       show ZbS (ZJ ((digitsVal w:Nat):Int))
       rw [gn]
       exact g
     ·rw [Zj,map_append]
      rfl
     ·refine ZdQ (ZbD ra ((ZbJ (Zw.updN htt)).trans (ZfH hp2))) ?_
      rw [Zn (Ne.symm np),Zj]
     ·rw [ZcS,gn,length_append,length_cons,length_append,length_singleton,show (((wr done).length+1+w.length:Nat):Int)+1=(((wr done).length+(w.length+1+1):Nat):Int) by omega]
    ·refine e (fun rs h gg=>?_) _ sm
     obtain ⟨n,rs',e4,e5⟩:=bad h
     obtain ⟨e6,_⟩:=Yx hw (ZvP n) (et.symm.trans e4)
     refine g ?_
     rw [e6]
     exact gg (d,n) (by rw [e5];simp)
def qI (K:PySem.W.Frag) (c:Cs):Sp:=fun vs H Q E=>match vs with
 |[.str z]=>(L z).length<=1000000/\(∀h rs,Pk (L z) h rs->∀p H',Zw H H'->H p=none->H' p=some (.tup [.str (T (flat rs)),.int (h:Int)])->Q (.ref p) H')/\((∀h rs,¬Pk (L z) h rs)->∀H',Zw H H'->E (.ref c.NoRow) none H')
 |_=>False
theorem ZfB {f:Addr} {fd:FuncData} (F:Fun K "unpacked" "unpacked" qm f fd) (B:Bn mg) {c:Cs} (ER:Er K mg c) {Zp Zh Zi:Addr} (TP:Tp K w.params mg Zp Zh Zi) {Zc Zm:Addr} (CF:Cf K Zc Zm) (GC:Gc mg) (zy:FnX P w K mg base 1 "number_in" Yo (ze K c)) (JM:FnX P w K mg base 2 "packed" JH (qb K c)) (ZaR:FnX P w K mg base 2 "read_runs" qD (qi K c)):Z4 P w K mg base (CX1 P w) 3 f fd Jw (qI K c):=by
 refine F.okX qF (fun vs H Q E h=>?_) (fun cdv A outer s H vs Q E hr h=>?_)<;>unfold qI at h<;>split at h<;>first|exact h.elim|skip
 ·rfl
 ·rename_i z
  obtain ⟨zl,q,e⟩:=h
  refine ⟨_,(Ze (ZK (Zu (i:=1) qF.nd rfl (by first|exact Or.inl rfl|exact Or.inr rfl) (zH (K:=K) rfl PySem.F.plainAttrs_str PySem.F.slot_str_partition PySem.F.type_str_partition ZdO (qv 0) (Zb Zs Zf))))
   (Ze (ZK (Zu (i:=2) qF.nd rfl (by first|exact Or.inl rfl|exact Or.inr rfl) (qh Z0.toTk zy (hr.mono (by decide)) (Zb (ZX (Z1 (K:=K) rfl) (qv 1) Zl (fun _ _=>rfl)) Zf))))
   (Ze (ZK (Zu (i:=3) qF.nd rfl (by first|exact Or.inl rfl|exact Or.inr rfl) (qh Z0.toTk ZaR (hr.mono (by decide)) (Zb (ZX (Z1 (K:=K) rfl) (qv 1) Zl (fun _ _=>rfl)) Zf))))
   (Ze (ZK (zd (Z7 Zd4 (ZH (ZrP (K:=K) rfl rfl) (by rfl) B.sum Zpl (Zb (Zfh (K:=K) rfl (own:=["sign","many"]) (cp:=[]) rfl rfl rfl (by decide +kernel) (by decide +kernel) trivial (qv 3) (by decide) (fun _ _ _ _=>zb (i:=0) (show List.Nodup (["sign","many"]:List Str) by decide +kernel) rfl (Or.inl rfl) (Or.inr rfl)) (fun _ _ _ _=>zb (i:=1) (show List.Nodup (["sign","many"]:List Str) by decide +kernel) rfl (Or.inl rfl) (Or.inr rfl)) (fun _ _ _ _=>ZgP) (fun _ _ _ _=>(qv 1))) Zf)) (ZhM rfl GC.MOST_SIGNS)) (Zo (YT Z0 rfl ER.x_NoRow rfl ER.m_NoRow (Zb Zs Zf))) ZM))
   (Ze (ZK (Zu (i:=4) qF.nd rfl (by first|exact Or.inl rfl|exact Or.inr rfl) (zH (K:=K) rfl PySem.F.plainAttrs_str PySem.F.slot_str_join PySem.F.type_str_join (Zb1 (K:=K) rfl) Zs (Zb (Zfh (K:=K) rfl (own:=["sign","many"]) (cp:=[]) rfl rfl rfl (by decide +kernel) (by decide +kernel) trivial (qv 3) (by decide) (fun _ _ _ _=>zb (i:=0) (show List.Nodup (["sign","many"]:List Str) by decide +kernel) rfl (Or.inl rfl) (Or.inr rfl)) (fun _ _ _ _=>zb (i:=1) (show List.Nodup (["sign","many"]:List Str) by decide +kernel) rfl (Or.inl rfl) (Or.inr rfl)) (fun _ _ _ _=>ZgP) (fun _ _ _ _=>(Zv ZfR (qv 0) (qv 1)))) Zf))))
   (Ze (ZK (zd (PW.pt (ZfW (Z7 Zd4 (qv 2) (ZH (zr (K:=K) rfl) (by rfl) B.len zo (Zb (qv 4) Zf))) (Ze2 (Z7 Zfr (qh Z0.toTk JM (hr.mono (by decide)) (Zb (qv 4) (Zb (qv 2) Zf))) (qv 0))))) (Zo (YT Z0 rfl ER.x_NoRow rfl ER.m_NoRow (Zb Zs Zf))) ZM))
   (Zo (ZI (Yv (Zb (qv 4) (Zb (qv 2) Zf))))))))))),?_⟩
  have hsz:sizeLine=16777216:=sizeLine_eq
  have e32:L (Str.ofString " ")=[32]:=by decide +kernel
  simp only [L2.ZR,map_cons,map_nil,length_cons,length_nil,replicate_succ,replicate_zero,cons_append,nil_append,Nat.reduceAdd,Nat.reduceSub,zG]
  refine zI (fun σ' H'=>Zw H H'/\∃p w0 b w2,Prt 32 (L z) w0 b w2/\H' p=some (.tup [.str (T w0),.str (T b),.str (T w2)])/\σ'=[some (V.str z),some (V.ref p),none,none,none]) ?_ ?_
  ·simp only [true_and,set_cons_zero,set_cons_succ,gS,ZE,tC,Z3,Zz,Zx,ZL,tBM,tyV,ZqT]
   refine ⟨32,e32,by omega,fun k hk hn p hp=>⟨Zw.updN hp,p,_,_,_,Zny hk hn,Zj,rfl⟩,fun hn p hp=>⟨Zw.updN hp,p,_,_,_,ZsT hn,by rw [Zj,T_L],rfl⟩⟩
  rintro _ H1 ⟨sm1,p1,w0,b,w2,pt,h1,rfl⟩
  obtain ⟨pl0,pl2⟩:=ZpI pt
  refine zI (fun σ' H'=>H'=H1/\ZbS w0/\σ'=[some (V.str z),some (V.ref p1),some (V.int ((digitsVal w0:Nat):Int)),none,none]) ?_ ?_
  ·simp only [set_cons_zero,set_cons_succ,gS,ZE,tC,Z3,Zz,tOp,Zx,ZL,ixV,Zcd]
   refine ⟨_,_,.inr (SqT.of h1),rfl,?_⟩
   simp only [true_and,and_true,L_T,ze]
   refine ⟨by omega,fun g=>g,fun g=>e (fun h rs k=>g ?_) _ sm1⟩
   rw [(Zm7 k pt).2.1]
   exact ZeW (by have:=k.2.1;have:=k.2.2.1;omega)
  rintro _ H1 ⟨rfl,g0,rfl⟩
  refine zI (fun σ' H'=>Zw H1 H'/\∃p2 ts rs,w2=wr rs/\H' p2=some (.lst (ts.map V.ref))/\Zat H' ts rs/\σ'=[some (V.str z),some (V.ref p1),some (V.int ((digitsVal w0:Nat):Int)),some (V.ref p2),none]) ?_ ?_
  ·simp only [set_cons_zero,set_cons_succ,gS,ZE,tC,Z3,Zz,tOp,Zx,ZL,ixV,Zcd]
   refine ⟨_,_,.inr (SqT.of h1),rfl,?_⟩
   simp only [L_T,qi]
   refine ⟨by omega,fun rs hr g p2 ts H2 sm2 hp2 h2 ra=>⟨sm2,p2,ts,rs,hr,h2,ra,rfl⟩,fun hn H2 sm2=>e (fun h rs k=>?_) _ (sm1.trans sm2)⟩
   exact hn rs (Zm7 k pt).2.2 fun r hr=>ZeW (qe hr k.2.1)
  rintro _ H2 ⟨sm2,p2,ts,rs,hw2,h2,ra,rfl⟩
  have hts:=ra.1
  have dl:=Zdr rs
  rw [<-hw2] at dl
  have pk1:∀{h rs'},Pk (L z) h rs'->rs'=rs/\h=digitsVal w0:=fun {h rs'} k=>by
   obtain ⟨_,a1,a2⟩:=Zm7 k pt
   exact ⟨ZdF (a2.symm.trans hw2),by rw [a1,Zew]⟩
  refine zI (fun σ' H'=>Zw H2 H'/\(flat rs).length<=300/\σ'=[some (V.str z),some (V.ref p1),some (V.int ((digitsVal w0:Nat):Int)),some (V.ref p2),none]) ?_ ?_
  ·simp only [map_nil,length_cons,length_nil,replicate_succ,replicate_zero,Nat.reduceAdd,and_true,decide_eq_true_eq,if_true,set_cons_zero,set_cons_succ,gS,ZE,tC,zf,YH,tCB,Zx,ZL,tB2,Jg,JJ,ZcJ,J6,Zqh,tCP,append_nil,gtV]
   refine ⟨_,SqL.of h2,by rw [length_map];omega,fun i H3 acc=>H3=H2/\acc=((rs.take i).map fun r:Nat×Nat=>((r.2:Nat):Int)).map V.int,⟨rfl,rfl⟩,?_,?_,?_⟩
   ·rintro i H3 acc _ ⟨rfl,_⟩
    exact SqL.of h2
   ·rintro i r H3 acc hr2 ⟨rfl,rfl⟩
    rw [List.getElem?_map] at hr2
    obtain ⟨t,et,rfl⟩:=Option.map_eq_some_iff.mp hr2
    have hi:i<rs.length:=by rw [<-hts];exact (List.getElem?_eq_some_iff.mp et).1
    have ei:rs[i]?=some rs[i]:=List.getElem?_eq_getElem hi
    obtain ⟨t',et',ht⟩:=ra.2 i rs[i] ei
    rw [et] at et'
    cases Option.some.inj et'
    refine ⟨t,_,_,rfl,SqT.of ht,?_⟩
    simp only [true_and]
    rw [List.take_succ,ei,map_append,map_append]
    rfl
   ·rintro H3 acc ⟨rfl,rfl⟩ l hl2
    rw [length_map,hts,List.take_length]
    refine ⟨_,SqL.of Zj,?_⟩
    rw [Zh9]
    refine z7 (fun w=>⟨by decide,e (fun h rs' k=>?_) _ ((sm1.trans sm2).upd hl2)⟩) fun w=>⟨Zw.updN hl2,by omega⟩
    have:=k.2.1
    rw [(pk1 k).1] at this
    omega
  rintro _ H3 ⟨sm3,fl,rfl⟩
  have h3:=sm3 _ _ h2
  have ra3:=ZbD ra (ZbJ sm3)
  refine zI (fun σ' H'=>Zw H3 H'/\σ'=[some (V.str z),some (V.ref p1),some (V.int ((digitsVal w0:Nat):Int)),some (V.ref p2),some (V.str (T (flat rs)))]) ?_ ?_
  ·simp only [map_nil,replicate_succ,replicate_zero,true_and,if_true,set_cons_zero,set_cons_succ,gS,ZE,tC,Z3,Zz,tOp,Zx,ZL,Zig,ZcV,tBM,tyV,ZmH,ZcJ,J6,tCP,append_nil]
   refine ⟨_,SqL.of h3,by rw [length_map];omega,fun i H4 acc=>H4=H3/\acc=((rs.take i).map fun r:Nat×Nat=>rep r.2 [r.1]).map fun l=>V.str (T l),⟨rfl,rfl⟩,?_,?_,?_⟩
   ·rintro i H4 acc _ ⟨rfl,_⟩
    exact SqL.of h3
   ·rintro i r H4 acc hr2 ⟨rfl,rfl⟩
    rw [List.getElem?_map] at hr2
    obtain ⟨t,et,rfl⟩:=Option.map_eq_some_iff.mp hr2
    have hi:i<rs.length:=by rw [<-hts];exact (List.getElem?_eq_some_iff.mp et).1
    have ei:rs[i]?=some rs[i]:=List.getElem?_eq_getElem hi
    obtain ⟨t',et',ht⟩:=ra3.2 i rs[i] ei
    rw [et] at et'
    cases Option.some.inj et'
    have hm:=qe (List.getElem_mem hi) fl
    refine ⟨t,_,_,rfl,SqT.of ht,?_⟩
    simp only [length_cons,length_nil,Nat.reduceAdd,true_and,L_T]
    refine ⟨⟨by omega,by omega,by rw [Int.toNat_natCast];omega⟩,?_⟩
    rw [List.take_succ,ei,map_append,map_append]
    rfl
   ·rintro H4 acc ⟨rfl,rfl⟩ l hl2
    rw [length_map,hts,List.take_length,ZcU]
    refine ⟨_,SqL.of Zj,?_,?_⟩
    ·rw [length_nil,Nat.mul_zero,<-List.length_flatten,Zhs]
     omega
    ·rw [qy,Zhs]
     exact ⟨Zw.updN hl2,rfl⟩
  rintro _ H4 ⟨sm4,rfl⟩
  have smA:=((sm1.trans sm2).trans sm3).trans sm4
  refine zI (fun σ' H'=>Zw H4 H'/\(∃rs2,flat rs2=flat rs/\Pk (L z) (digitsVal w0) rs2)/\σ'=[some (V.str z),some (V.ref p1),some (V.int ((digitsVal w0:Nat):Int)),some (V.ref p2),some (V.str (T (flat rs)))]) ?_ ?_
  ·simp only [length_cons,length_nil,Nat.reduceAdd,and_true,decide_eq_true_eq,if_true,gS,ZE,tC,zf,YH,tCB,Zx,ZL,tB2,tOr,Jg,neR,sc,Jz,L_T,JJ,Zcd,gtV,qb]
   refine ⟨by omega,z7 (fun w=>⟨by decide,e (fun h rs' k=>?_) _ smA⟩) fun w=>⟨fl,fun y=>absurd ⟨by omega,by omega⟩ y,fun _ rs2 gd2 fl2 H5 sm5=>?_⟩⟩
   ·have:=k.2.2.1
    obtain ⟨a1,a2⟩:=pk1 k
    rw [a1,a2] at this
    omega
   ·by_cases ee:ZJ ((digitsVal w0:Nat):Int)++32::wr rs2=L z
    ·rw [decide_eq_true ee]
     exact Zd0 ⟨sm5,rs2,fl2,gd2,by rw [fl2];exact fl,by rw [fl2];omega,ee.symm⟩
    ·rw [decide_eq_false ee]
     refine Zht ⟨by decide,e (fun h rs' k=>ee ?_) _ (smA.trans sm5)⟩
     obtain ⟨a1,a2⟩:=pk1 k
     subst a1 a2
     rw [ZaG gd2 k.1 fl2]
     exact k.2.2.2.symm
  rintro _ H5 ⟨sm5,⟨rs2,fl2,k⟩,rfl⟩
  have sm:=smA.trans sm5
  simp only [length_cons,length_nil,Nat.reduceAdd,gS,ZE,zP,Zx,ZL,Zbv]
  exact ⟨by omega,fun p hp=>q _ rs2 k p _ (sm.upd hp) (sm.free hp) (by rw [Zj,fl2])⟩
def Yj (K:PySem.W.Frag):Sp:=fun vs H Q _=>match vs with
 |[.str a,.str b]=>Q (.bl (decide (L a<L b))) H
 |_=>False
theorem ZcY {f:Addr} {fd:FuncData} (F:Fun K "comes_before" "comes_before" zT f fd) (B:Bn mg) {c:Cs} (ER:Er K mg c) {Zp Zh Zi:Addr} (TP:Tp K w.params mg Zp Zh Zi) {Zc Zm:Addr} (CF:Cf K Zc Zm) (GC:Gc mg):Z4 P w K mg base CX0 1 f fd YC (Yj K):=by
 refine F.pure Zc5 (fun vs H Q E h=>?_) (fun cdv A outer s H vs Q E hr h=>?_)<;>unfold Yj at h<;>split at h<;>first|exact h.elim|skip
 ·rfl
 ·refine ⟨_,(Zo (ZI (ZdT Zfw (qv 0) (qv 1)))),?_⟩
  simp only [L2.ZR,map_cons,map_nil,length_cons,length_nil,replicate_zero,cons_append,nil_append,Nat.reduceAdd,Nat.reduceSub,gS,ZE,zP,tOp,ltV]
  exact ⟨Zw.refl _,h⟩
def zh (K:PySem.W.Frag) (c:Cs) (C:Addr) (tb:Addr):Sp:=fun vs H Q E=>match vs with
 |[.ref x,.str z,.int h]=>(L z).length<=62/\Zr tb H/\(∃dx,H x=some (.ins C dx []))/\(¬(0<=h/\h<=(L z).length)->E (.ref c.NoPlace) none H)/\((0<=h/\h<=(L z).length)->∀H',(∀b o,b≠x->H b=some o->(∀ps,o≠ .tbl ps)->H' b=some o)->(∀b,H b≠none->H' b≠none)->(∀b o,b≠x->b≠tb->H b=some o->H' b=some o)->Zr tb H'->ZbE C H' x (L z) h.toNat->Q .non H')
 |_=>False
theorem ZcG {f:Addr} {fd:FuncData} (F:Fun K "__init__" "Letters.__init__" zR f fd) (B:Bn mg) {Zd:Addr} {cd:Addr} (LM_m_Letters_init:Lm mg base cd Zd) (hcd:fd.code=.ref cd) {c:Cs} (ER:Er K mg c) {Zp Zh Zi:Addr} (TP:Tp K w.params mg Zp Zh Zi) {Zc Zm:Addr} (CF:Cf K Zc Zm) (GC:Gc mg) (ZW:FnX P w K mg base 1 "check_place" zi (ZY K c)):Z4 P w K mg base (CX1 P w) 3 f fd zS (zh K c Zc Zd):=by
 refine F.okLX hcd ZaL (fun vs H Q E h=>?_) (fun A outer s H vs Q E hr h=>?_)<;>unfold zh at h<;>split at h<;>first|exact h.elim|skip
 ·rfl
 ·rename_i x z h
  obtain ⟨hl,bk,⟨dx,hx⟩,e,q⟩:=h
  refine ⟨_,(Ze (qM (qh Z0.toTk ZW (hr.mono (by decide)) (Zb (qv 2) (Zb (ZH (zr (K:=K) rfl) (by rfl) B.len zo (Zb (qv 1) Zf)) Zf))))
   (Ze (Zu (i:=3) ZaL.nd rfl (by first|exact Or.inl rfl|exact Or.inr rfl) (Zv ZN (Zv ZN (qj (ZbK (K:=K) rfl) (qv 1) Zaw (ZcZ (qv 2))) (Zn9 rfl GC.NO_LETTER)) (qj (ZbK (K:=K) rfl) (qv 1) (ZcZ (qv 2)) Zaw)))
   (Ze (Zb3 (K:=K) rfl CF.cl_Letters CF.na_Letters_column (qv 0) (qv 3) rfl)
   (Ze (Zb3 (K:=K) rfl CF.cl_Letters CF.na_Letters_home (qv 0) (qv 2) rfl)
   (Ze (ZK (Zb3 (K:=K) rfl CF.cl_Letters CF.na_Letters_last (qv 0) (ZH (zr (K:=K) rfl) (by rfl) B.len zo (Zb (qv 1) Zf)) rfl))
   (Ze (Zb3 (K:=K) rfl CF.cl_Letters CF.na_Letters_totals (qv 0) (Ze7 (K:=K) rfl (own:=["sign"]) (cp:=[(("letters":Str),1)]) rfl rfl rfl (by decide +kernel) (by decide +kernel) ⟨⟨rfl,rfl,rfl⟩,trivial⟩ (ZH (ZpL (w:=w) rfl rfl) (by rfl) B.sorted Zf5 (Zb (zF (ZtR (w:=w) rfl rfl) (by rfl) B.set Zw1 (Zb (qv 1) Zf)) Zf)) (by decide) (fun _ _ _ _=>zb (i:=0) (show List.Nodup (["sign","letters"]:List Str) by decide +kernel) rfl (Or.inl rfl) (Or.inr rfl)) (fun _ _ _ _=>ZgP) (fun _ _ _ _=>(Yv (Zb (qv 0) (Zb (zH (K:=K) rfl PySem.F.plainAttrs_str PySem.F.slot_str_count PySem.F.type_str_count ZeX (qv 1) (Zb (qv 0) Zf)) Zf))))) rfl)
   (Zo (Zb3 (K:=K) rfl CF.cl_Letters CF.na_Letters_forths (qv 0) (ZeU (K:=K) (x:="row") (cp:=[(("column":Str),3)]) (q:=Zaz) rfl rfl (hr.mono (by decide)) (LM_m_Letters_init.at rfl) rfl B.sorted rfl rfl rfl rfl (by decide +kernel) ⟨⟨rfl,rfl,rfl⟩,trivial⟩ rfl (by decide +kernel) rfl rfl (fun _ _ _ _=>rfl) (Zb (zF ZgR (by rfl) B.range ZeE (Zb (ZH (zr (K:=K) rfl) (by rfl) B.len zo (Zb (qv 3) Zf)) Zf)) Zf) (fun _ _ _ _ _ _=>(ZX (Z1 (K:=K) rfl) (qv 1) (qv 0) (fun _ _=>rfl)))) rfl)))))))),?_⟩
  simp only [L2.ZR,map_cons,map_nil,length_cons,length_nil,replicate_succ,replicate_zero,cons_append,nil_append,Nat.reduceAdd,Nat.reduceSub,set_cons_zero,set_cons_succ,gS,ZE,tC,zG,Z3,Zz,ZaM,tOp,tCB,Zx,ZL,tSl,ZaN,pT,Y5,slV,Jz,L_T,Zcd,Zn6,ZY]
  have hsz:sizeLine=16777216:=sizeLine_eq
  refine ⟨by omega,fun hh=>?_,fun hh=>e hh⟩
  obtain ⟨m,rfl⟩:∃m:Nat,h=(m:Int):=⟨h.toNat,by omega⟩
  have hm:m<=(L z).length:=by omega
  have q:=q hh
  rw [Int.toNat_natCast] at q
  have c1:=ZgJ (L z) none (some (m:Int))
  have c2:=ZgJ (L z) (some (m:Int)) none
  have c3:(L (Str.ofString "\n")).length=1:=by decide +kernel
  have cl:=Zg8 hm
  refine ⟨by omega,by omega,by omega,by rw [length_append];omega,?_⟩
  rw [Zo8]
  refine ⟨_,_,hx,by decide,_,_,Zj,by show 1<1000;decide,?_⟩
  rw [Zbj]
  refine zI (fun σ' H'=>H'=upd H x (HO.ins Zc dx (Y6 (Str.ofString "last") (V.int ((L z).length:Nat)) (Y6 (Str.ofString "home") (V.int (m:Int)) (Y6 (Str.ofString "column") (V.str (T (zV (L z) m))) []))))/\σ'=[some (V.ref x),some (V.str z),some (V.int (m:Int)),some (V.str (T (zV (L z) m)))]) ?_ ?_
  ·simp only [and_true,gS,ZE,tCB,Zx,ZL,Jz,Zn6]
   refine ⟨by omega,_,_,Zj,by show 2<1000;decide,?_⟩
   rw [Zbj]
  rintro _ _ ⟨rfl,rfl⟩
  generalize hF:Y6 (Str.ofString "last") (V.int ((L z).length:Nat)) (Y6 (Str.ofString "home") (V.int (m:Int)) (Y6 (Str.ofString "column") (V.str (T (zV (L z) m))) []))=F3
  simp only [map_cons,map_nil,length_cons,length_nil,replicate_succ,replicate_zero,cons_append,nil_append,Nat.reduceAdd,true_and,if_true,set_cons_zero,gS,ZE,zG,tOp,tCB,Zx,ZL,Zbv,ixV,Jz,tBM,tyV,L_T,tCL,ZcJ,J6,Zgy,Zfy,Znl,Zn6,Zuo,Zpd,Zm3]
  have lF:F3.length=3:=by rw [<-hF];rfl
  have bk0:Zr Zd (upd H x (HO.ins Zc dx F3)):=Zit bk hx
  refine ⟨by omega,fun p cs hp nd mem=>⟨cs,Zj,?_,fun l qs hl2 pm pw=>?_⟩⟩
  ·have:=LO.Zc6 nd fun c hc=>(mem c).mp hc
   omega
  have lq:qs.length<=(L z).length:=by
   rw [pm.length_eq]
   exact LO.Zc6 nd fun c hc=>(mem c).mp hc
  have x1:upd (upd H x (HO.ins Zc dx F3)) p (Zeq w p cs) x=some (HO.ins Zc dx F3):=Zi8 hp
  have x2:upd (upd (upd H x (HO.ins Zc dx F3)) p (Zeq w p cs)) l (HO.lst (qs.map fun c=>V.str (T [c]))) x=some (HO.ins Zc dx F3):=(Zn (Zq x1 hl2)).trans x1
  have l2:upd (upd (upd H x (HO.ins Zc dx F3)) p (Zeq w p cs)) l (HO.lst (qs.map fun c=>V.str (T [c]))) l=some (HO.lst (qs.map fun c=>V.str (T [c]))):=Zj
  have kp2:∀b o,b≠x->H b=some o->upd (upd (upd H x (HO.ins Zc dx F3)) p (Zeq w p cs)) l (HO.lst (qs.map fun c=>V.str (T [c]))) b=some o:=fun b o hb e=>by
   have e1:upd H x (HO.ins Zc dx F3) b=some o:=(Zn hb).trans e
   have e2:upd (upd H x (HO.ins Zc dx F3)) p (Zeq w p cs) b=some o:=(Zn (Zq e1 hp)).trans e1
   exact (Zn (Zq e2 hl2)).trans e2
  have bk2:Zr Zd (upd (upd (upd H x (HO.ins Zc dx F3)) p (Zeq w p cs)) l (HO.lst (qs.map fun c=>V.str (T [c])))):=(bk0.put hp).put hl2
  have nn2:∀b,H b≠none->upd (upd (upd H x (HO.ins Zc dx F3)) p (Zeq w p cs)) l (HO.lst (qs.map fun c=>V.str (T [c]))) b≠none:=fun b hb=>ZbP (ZbP (ZbP hb))
  generalize upd (upd (upd H x (HO.ins Zc dx F3)) p (Zeq w p cs)) l (HO.lst (qs.map fun c=>V.str (T [c])))=HZ at x2 l2 kp2 bk2 nn2 ⊢
  refine ⟨_,SqL.of l2,by rw [length_map];omega,fun i H2 acc=>Zw HZ H2/\∃ts:List Addr,acc=ts.map V.ref/\Prs H2 ts (qs.take i) (L z),⟨Zw.refl _,[],rfl,rfl,fun j d e=>by simp at e⟩,?_,?_,?_⟩
  ·rintro i H2 acc _ ⟨sm,_⟩
   exact sm.seq (SqL.of l2)
  ·rintro i y H2 acc hy ⟨sm,ts,rfl,pr⟩
   rw [List.getElem?_map] at hy
   obtain ⟨d,ed,rfl⟩:=Option.map_eq_some_iff.mp hy
   simp only [L_T]
   refine ⟨d,rfl,by omega,fun t ht=>⟨Zw.upd sm ht,ts++[t],by rw [map_append];rfl,?_⟩⟩
   rw [List.take_succ,ed]
   exact (pr.same (ZbJ (Zw.updN ht))).snoc Zj
  ·rintro H2 acc ⟨sm,ts,rfl,pr⟩ l3 hl3
   rw [length_map,List.take_length] at pr
   have x3:upd H2 l3 (HO.lst (ts.map V.ref)) x=some (HO.ins Zc dx F3):=(Zn (Zq (sm _ _ x2) hl3)).trans (sm _ _ x2)
   have t3:upd H2 l3 (HO.lst (ts.map V.ref)) l3=some (HO.lst (ts.map V.ref)):=Zj
   have kp3:∀b o,b≠x->H b=some o->upd H2 l3 (HO.lst (ts.map V.ref)) b=some o:=fun b o hb e=>by
    have e1:=sm _ _ (kp2 b o hb e)
    exact (Zn (Zq e1 hl3)).trans e1
   have bk3:Zr Zd (upd H2 l3 (HO.lst (ts.map V.ref))):=(Jl bk2 sm).put hl3
   have pr3:=pr.same (ZbJ (Zw.updN (o:=HO.lst (ts.map V.ref)) hl3))
   have nn3:∀b,H b≠none->upd H2 l3 (HO.lst (ts.map V.ref)) b≠none:=fun b hb=>ZbP (sm.nn (nn2 b hb))
   generalize upd H2 l3 (HO.lst (ts.map V.ref))=H3 at x3 t3 kp3 bk3 pr3 nn3 ⊢
   have n3:l3≠x:=by rintro rfl;rw [t3] at x3;cases x3
   have lF4:(Y6 (Str.ofString "totals") (V.ref l3) F3).length=4:=by rw [<-hF];rfl
   refine ⟨_,_,x3,by omega,by omega,fun r hr0=>?_⟩
   have bk4:Zr Zd (upd H3 x (HO.ins Zc dx (Y6 (Str.ofString "totals") (V.ref l3) F3))):=Zit bk3 x3
   have x4:upd (upd H3 x (HO.ins Zc dx (Y6 (Str.ofString "totals") (V.ref l3) F3))) r (HO.rng 0 ((zV (L z) m).length:Int)) x=some (HO.ins Zc dx (Y6 (Str.ofString "totals") (V.ref l3) F3)):=Zi8 hr0
   have kp4:∀b o,b≠x->H3 b=some o->upd (upd H3 x (HO.ins Zc dx (Y6 (Str.ofString "totals") (V.ref l3) F3))) r (HO.rng 0 ((zV (L z) m).length:Int)) b=some o:=fun b o hb e=>by
    have e1:upd H3 x (HO.ins Zc dx (Y6 (Str.ofString "totals") (V.ref l3) F3)) b=some o:=(Zn hb).trans e
    exact (Zn (Zq e1 hr0)).trans e1
   have er:=Zm4 (zV (L z) m).length
   have el:(Za8 0 ((zV (L z) m).length:Int)).length=(zV (L z) m).length:=by rw [er];simp
   refine ⟨_,(zV (L z) m).map fun c=>[c],.inr (.inr ⟨0,_,Zj,rfl,by omega,by omega,by omega,by omega⟩),by omega,by rw [length_map,el],bk4.put hr0,fun H5 i y sm5 hy=>?_,fun H5 l4 p4 sm5 se5 bk5 hl4 pm4 pw4=>?_⟩
   ·have hi:=(List.getElem?_eq_some_iff.mp hy).1
    rw [el] at hi
    rw [er,List.getElem?_map,List.getElem?_range hi] at hy
    cases Option.some.inj hy
    simp only [L_T]
    refine ⟨by omega,_,zJ 0 (by omega) (by omega),?_⟩
    rw [Int.toNat_natCast,List.getD_eq_getElem?_getD,List.getD_eq_getElem?_getD,List.getElem?_map,List.getElem?_eq_getElem hi]
    rfl
   ·have x5:=sm5.at x4 (by nofun)
    have x6:upd H5 l4 (HO.lst (p4.map fun i=>(Za8 0 ((zV (L z) m).length:Int)).getD i V.non)) x=some (HO.ins Zc dx (Y6 (Str.ofString "totals") (V.ref l3) F3)):=(Zn (Zq x5 hl4)).trans x5
    refine ⟨_,_,x6,by omega,?_⟩
    have kp6:∀b o,b≠x->H3 b=some o->(∀ps,o≠ .tbl ps)->upd (upd H5 l4 (HO.lst (p4.map fun i=>(Za8 0 ((zV (L z) m).length:Int)).getD i V.non))) x (HO.ins Zc dx (Y6 (Str.ofString "forths") (V.ref l4) (Y6 (Str.ofString "totals") (V.ref l3) F3))) b=some o:=fun b o hb e n=>by
     have e1:=sm5.at (kp4 b o hb e) n
     exact (Zn hb).trans ((Zn (Zq e1 hl4)).trans e1)
    refine q _ (fun b o hb e n=>kp6 b o hb (kp3 b o hb e) n) (fun b hb=>ZbP (ZbP (sm5.nn (ZbP (ZbP (nn3 b hb)))))) (fun b o hb ht e=>?_) (Zit (bk5.put hl4) x6) ⟨dx,l3,l4,?_,⟨⟨ts,qs,kp6 _ _ n3 t3 (by nofun),pr3.1,fun j d e=>?_,pm.nodup_iff.mpr nd,fun c=>pm.mem_iff.trans (mem c)⟩,p4,?_,?_,?_⟩,hm⟩
    ·have e1:=se5 _ _ ht (kp4 b o hb (kp3 b o hb e))
     exact (Zn hb).trans ((Zn (Zq e1 hl4)).trans e1)
    ·rw [Zj,<-hF]
     exact congrArg (fun f=>some (HO.ins Zc dx f)) (ZnM (L z) m l3 l4)
    ·obtain ⟨t,e1,e2⟩:=pr3.2 j d e
     have:t≠x:=by rintro rfl;rw [x3] at e2;cases e2
     exact ⟨t,e1,kp6 _ _ this e2 (by nofun)⟩
    ·have n4:l4≠x:=Ne.symm (Zq x5 hl4)
     rw [Zn n4,Zj]
     congr 2
     refine map_congr_left fun j hj=>?_
     have hj2:j<(zV (L z) m).length:=by rw [<-el];exact List.mem_range.mp (pm4.mem_iff.mp hj)
     rw [er,List.getD_eq_getElem?_getD,List.getElem?_map,List.getElem?_range hj2]
     rfl
    ·rw [el,cl] at pm4
     exact pm4
    ·refine pw4.imp_of_mem fun {i j} hi hj h=>?_
     have g:∀i∈p4,((zV (L z) m).map fun c=>[c]).getD i []=[(zV (L z) m).getD i 0]:=fun i hi=>by
      have hi2:i<(zV (L z) m).length:=by rw [<-el];exact List.mem_range.mp (pm4.mem_iff.mp hi)
      rw [List.getD_eq_getElem?_getD,List.getD_eq_getElem?_getD,List.getElem?_map,List.getElem?_eq_getElem hi2]
      rfl
     rw [g i hi,g j hj] at h
     exact h
def Z6 (K:PySem.W.Frag) (c:Cs) (C:Addr):Sp:=fun vs H Q E=>match vs with
 |[.ref a,.int r]=>∃cs h,ZbE C H a cs h/\cs.length<=1000/\(¬(0<=r/\r<=cs.length)->E (.ref c.NoPlace) none H)/\((0<=r/\r<=cs.length)->Q (if r=(h:Int) then .non else .str (T [(zV cs h).getD r.toNat 0])) H)
 |_=>False
theorem Zcb {f:Addr} {fd:FuncData} (F:Fun K "letter" "Letters.letter" zw f fd) (B:Bn mg) {c:Cs} (ER:Er K mg c) {Zp Zh Zi:Addr} (TP:Tp K w.params mg Zp Zh Zi) {Zc Zm:Addr} (CF:Cf K Zc Zm) (GC:Gc mg) (ZW:FnX P w K mg base 1 "check_place" zi (ZY K c)):Z4 P w K mg base (CX1 P w) 2 f fd zp (Z6 K c Zc):=by
 refine F.okX Zck (fun vs H Q E h=>?_) (fun cdv A outer s H vs Q E hr h=>?_)<;>unfold Z6 at h<;>split at h<;>first|exact h.elim|skip
 ·rfl
 ·rename_i a r
  obtain ⟨cs,h,⟨dx,tot,fo,hx,_,hm⟩,hl,e,q⟩:=h
  refine ⟨_,(Ze (qM (qh Z0.toTk ZW (hr.mono (by decide)) (Zb (qv 1) (Zb (ZaH (K:=K) rfl CF.cl_Letters CF.na_Letters_last (qv 0)) Zf))))
   (Ze (zd (Z7 Zc7 (qv 1) (ZaH (K:=K) rfl CF.cl_Letters CF.na_Letters_home (qv 0))) (Zo (ZI ZbU)) ZM)
   (Zo (ZI (ZX (Z1 (K:=K) rfl) (ZaH (K:=K) rfl CF.cl_Letters CF.na_Letters_column (qv 0)) (qv 1) (fun _ _=>rfl)))))),?_⟩
  simp only [L2.ZR,map_cons,map_nil,length_cons,length_nil,replicate_zero,Nat.reduceAdd,Nat.reduceSub,gS,ZE,tC,zG,zf,zP,ZaM,YH,tOp,Zx,ZL,tB2,eqR,sc,ixV,Zcd,Znf,append_nil,ZY]
  have hsz:sizeLine=16777216:=sizeLine_eq
  have cl:=Zg8 hm
  refine ⟨_,_,_,hx,rfl,?_⟩
  simp only [L2.ZR]
  refine ⟨fun hh=>⟨_,_,_,hx,rfl,?_⟩,fun hh=>e hh⟩
  have q:=q hh
  simp only [decide_eq_true_eq]
  refine z7 (fun e0=>?_) fun e0=>⟨_,_,_,hx,rfl,?_⟩
  ·rw [if_pos e0] at q
   exact q
  ·rw [if_neg e0] at q
   simp only [L_T]
   exact ⟨by omega,_,zJ 0 (by omega) (by omega),q⟩
def zU (K:PySem.W.Frag) (C:Addr):Sp:=fun vs H Q _=>match vs with
 |[.ref a,.str y]=>∃cs h d,ZbE C H a cs h/\cs.length<=1000/\L y=[d]/\Q (.int (1+(cs.countP fun x=>decide (x<d):Nat))) H
 |_=>False
theorem Zcs {f:Addr} {fd:FuncData} (F:Fun K "first" "Letters.first" zE f fd) (B:Bn mg) {c:Cs} (ER:Er K mg c) {Zp Zh Zi:Addr} (TP:Tp K w.params mg Zp Zh Zi) {Zc Zm:Addr} (CF:Cf K Zc Zm) (GC:Gc mg) (JF:Fn P w K mg base 1 "comes_before" YC (Yj K)):Z4 P w K mg base CX0 2 f fd Yi (zU K Zc):=by
 refine F.pure Zcv (fun vs H Q E h=>?_) (fun cdv A outer s H vs Q E hr h=>?_)<;>unfold zU at h<;>split at h<;>first|exact h.elim|skip
 ·rfl
 ·rename_i a y
  obtain ⟨cs,h,d,⟨dx,tot,fo,hx,⟨⟨ts,ds,t1,t2,t3,nd,mem⟩,_⟩,hm⟩,hl,hy,q⟩:=h
  refine ⟨_,(Zo (ZI (Zv ZN Zl (ZH (ZrP (K:=K) rfl rfl) (by rfl) B.sum Zpl (Zb (Zfh (K:=K) rfl (own:=["letter","many"]) (cp:=[(("sign":Str),1)]) rfl rfl rfl (by decide +kernel) (by decide +kernel) ⟨⟨rfl,rfl,rfl⟩,trivial⟩ (ZaH (K:=K) rfl CF.cl_Letters CF.na_Letters_totals (qv 0)) (by decide) (fun _ _ _ _=>zb (i:=0) (show List.Nodup (["letter","many","sign"]:List Str) by decide +kernel) rfl (Or.inl rfl) (Or.inr rfl)) (fun _ _ _ _=>zb (i:=1) (show List.Nodup (["letter","many","sign"]:List Str) by decide +kernel) rfl (Or.inl rfl) (Or.inr rfl)) (fun _ _ _ _=>Zek (Zbk (K:=K) rfl (zk JF (hr.mono (by decide)) (Zb (qv 0) (Zb (qv 2) Zf))))) (fun _ _ _ _=>(qv 1))) Zf))))),?_⟩
  simp only [L2.ZR,map_cons,map_nil,length_cons,length_nil,replicate_succ,replicate_zero,cons_append,nil_append,Nat.reduceAdd,Nat.reduceSub,decide_eq_true_eq,set_cons_zero,set_cons_succ,gS,ZE,tC,zP,tOp,tCB,Zx,ZL,tFn,trV,Y5,ZcJ,J6,Zqh,tCP,Znf,append_nil,Yj]
  have hsz:sizeLine=16777216:=sizeLine_eq
  have ld:ds.length<=cs.length:=LO.Zc6 nd fun c hc=>(mem c).mp hc
  refine ⟨_,_,_,hx,rfl,?_⟩
  simp only [L2.ZR]
  refine ⟨_,SqL.of t1,by rw [length_map];omega,fun i H2 acc=>H2=H/\acc=(((ds.take i).filter fun x=>decide (x<d)).map fun x=>(cs.count x:Int)).map V.int,⟨rfl,rfl⟩,?_,?_,?_⟩
  ·rintro i H2 acc _ ⟨rfl,_⟩
   exact SqL.of t1
  ·rintro i r H2 acc hr2 ⟨rfl,rfl⟩
   rw [List.getElem?_map] at hr2
   obtain ⟨t,et,rfl⟩:=Option.map_eq_some_iff.mp hr2
   have hi:i<ds.length:=by rw [<-t2];exact (List.getElem?_eq_some_iff.mp et).1
   have ei:ds[i]?=some ds[i]:=List.getElem?_eq_getElem hi
   obtain ⟨t',et',ht⟩:=t3 i ds[i] ei
   rw [et] at et'
   cases Option.some.inj et'
   refine ⟨t,_,_,rfl,SqT.of ht,?_⟩
   simp only [true_and,L_T]
   rw [hy,List.take_succ,ei]
   have lt1:([ds[i]]<[d])↔ds[i]<d:=by
    rw [List.cons_lt_cons_iff]
    simp
   refine z7 (fun z=>?_) fun z=>?_
   ·have hlt:=lt1.mp z
    have fe:List.filter (fun x=>decide (x<d)) (some ds[i]).toList=[ds[i]]:=by simp [Option.toList,hlt]
    rw [List.filter_append,fe,map_append,map_append]
    rfl
   ·have hlt:¬ds[i]<d:=fun y=>z (lt1.mpr y)
    have fe:List.filter (fun x=>decide (x<d)) (some ds[i]).toList=[]:=by simp [Option.toList,hlt]
    rw [List.filter_append,fe,append_nil]
  ·rintro H2 acc ⟨rfl,rfl⟩ l hl2
   rw [length_map,t2,List.take_length]
   refine ⟨_,SqL.of Zj,Zw.updN hl2,?_⟩
   rw [ZhP d cs ds nd fun x hx=>(mem x).mpr hx]
   exact q
def zK (K:PySem.W.Frag) (c:Cs) (C:Addr):Sp:=fun vs H Q E=>match vs with
 |[.ref a,.str y,.int r]=>∃cs h d,ZbE C H a cs h/\cs.length<=1000/\L y=[d]/\(¬(0<=r/\r<=cs.length+1)->E (.ref c.NoPlace) none H)/\((0<=r/\r<=cs.length+1)->Q (.int (((zV cs h).take r.toNat).count d:Nat)) H)
 |_=>False
theorem Zci {f:Addr} {fd:FuncData} (F:Fun K "before" "Letters.before" zm f fd) (B:Bn mg) {c:Cs} (ER:Er K mg c) {Zp Zh Zi:Addr} (TP:Tp K w.params mg Zp Zh Zi) {Zc Zm:Addr} (CF:Cf K Zc Zm) (GC:Gc mg) (ZW:FnX P w K mg base 1 "check_place" zi (ZY K c)):Z4 P w K mg base (CX1 P w) 2 f fd zX (zK K c Zc):=by
 refine F.okX Zce (fun vs H Q E h=>?_) (fun cdv A outer s H vs Q E hr h=>?_)<;>unfold zK at h<;>split at h<;>first|exact h.elim|skip
 ·rfl
 ·rename_i a y r
  obtain ⟨cs,h,d,⟨dx,tot,fo,hx,_,hm⟩,hl,hy,e,q⟩:=h
  refine ⟨_,(Ze (qM (qh Z0.toTk ZW (hr.mono (by decide)) (Zb (qv 2) (Zb (Zv ZN (ZaH (K:=K) rfl CF.cl_Letters CF.na_Letters_last (qv 0)) Zl) Zf))))
   (Zo (ZI (zH (K:=K) rfl PySem.F.plainAttrs_str PySem.F.slot_str_count PySem.F.type_str_count ZeX (ZaH (K:=K) rfl CF.cl_Letters CF.na_Letters_column (qv 0)) (Zb (qv 1) (Zb Zl (Zb (qv 2) Zf))))))),?_⟩
  simp only [L2.ZR,map_cons,map_nil,length_cons,length_nil,replicate_zero,Nat.reduceAdd,Nat.reduceSub,String.reduceEq,gS,ZE,tC,zG,zP,ZaM,tOp,Zx,ZL,Y5,tBM,tyV,Zcd,Zgz,Znf,Zm3,append_nil,ZY]
  have hsz:sizeLine=16777216:=sizeLine_eq
  refine ⟨_,_,_,hx,rfl,?_⟩
  simp only [L2.ZR]
  refine ⟨fun hh=>⟨_,_,_,hx,rfl,?_⟩,fun hh=>e hh⟩
  have q:=q hh
  simp only [true_and,L_T]
  exact ⟨d,hy,hh.1,q⟩
def zj (K:PySem.W.Frag) (c:Cs) (C:Addr):Sp:=fun vs H Q E=>match vs with
 |[.ref a,.str y,.int r]=>∃cs h d,ZbE C H a cs h/\cs.length<=1000/\L y=[d]/\(¬(0<=r/\r<=cs.length+1)->E (.ref c.NoPlace) none H)/\((0<=r/\r<=cs.length+1)->Q (.int (1+(cs.countP fun x=>decide (x<d):Nat)+(((zV cs h).take r.toNat).count d:Nat))) H)
 |_=>False
theorem Zbu {f:Addr} {fd:FuncData} (F:Fun K "row_with" "Letters.row_with" Z9 f fd) (B:Bn mg) {c:Cs} (ER:Er K mg c) {Zp Zh Zi:Addr} (TP:Tp K w.params mg Zp Zh Zi) {Zc Zm:Addr} (CF:Cf K Zc Zm) (GC:Gc mg) (M_m_Letters_first:Md P w K mg base CX0 2 Zc "first" Yi [] (zU K Zc)) (M_m_Letters_before:Md P w K mg base (CX1 P w) 2 Zc "before" zX [] (zK K c Zc)):Z4 P w K mg base (CX1 P w) 3 f fd zB (zj K c Zc):=by
 refine F.okX Zby (fun vs H Q E h=>?_) (fun cdv A outer s H vs Q E hr h=>?_)<;>unfold zj at h<;>split at h<;>first|exact h.elim|skip
 ·rfl
 ·rename_i a y r
  obtain ⟨cs,h,d,il,hl,hy,e,q⟩:=h
  refine ⟨_,(Zo (ZI (Zv ZN (ZrT M_m_Letters_first (hr.mono (by decide)) (qv 0) (Zb (qv 1) Zf)) (Zfe Z0.toTk M_m_Letters_before (hr.mono (by decide)) (qv 0) (Zb (qv 1) (Zb (qv 2) Zf)))))),?_⟩
  simp only [L2.ZR,map_cons,map_nil,length_cons,length_nil,replicate_zero,Nat.reduceAdd,Nat.reduceSub,gS,ZE,zP,tOp,Zx,ZL,Y5,Zjn,Ze8,append_nil,zU,zK]
  have il':=il
  obtain ⟨dx,tot,fo,hx,_,hm⟩:=il'
  exact ⟨a,_,_,rfl,hx,rfl,cs,h,d,il,hl,hy,a,_,_,rfl,hx,rfl,cs,h,d,il,hl,hy,e,q⟩
def Yh (K:PySem.W.Frag) (c:Cs) (C:Addr):Sp:=fun vs H Q E=>match vs with
 |[.ref a,.int r]=>∃cs h,ZbE C H a cs h/\cs.length<=1000/\(∀c∈cs,c≠10)/\(¬(0<=r/\r<=cs.length)->E (.ref c.NoPlace) none H)/\((0<=r/\r<=cs.length)->Q (ZqQ (LO.bk (LO.rsL cs h) r.toNat)) H)
 |_=>False
theorem Zdc {f:Addr} {fd:FuncData} (F:Fun K "back" "Letters.back" zO f fd) (B:Bn mg) {c:Cs} (ER:Er K mg c) {Zp Zh Zi:Addr} (TP:Tp K w.params mg Zp Zh Zi) {Zc Zm:Addr} (CF:Cf K Zc Zm) (GC:Gc mg) (M_m_Letters_letter:Md P w K mg base (CX1 P w) 2 Zc "letter" zp [] (Z6 K c Zc)) (M_m_Letters_row_with:Md P w K mg base (CX1 P w) 3 Zc "row_with" zB [] (zj K c Zc)):Z4 P w K mg base (CX1 P w) 4 f fd Yw (Yh K c Zc):=by
 refine F.okX ZaO (fun vs H Q E h=>?_) (fun cdv A outer s H vs Q E hr h=>?_)<;>unfold Yh at h<;>split at h<;>first|exact h.elim|skip
 ·rfl
 ·rename_i a r
  obtain ⟨cs,h,il,hl,h10,e,q⟩:=h
  refine ⟨_,(Ze (Zu (i:=2) ZaO.nd rfl (by first|exact Or.inl rfl|exact Or.inr rfl) (Zfe Z0.toTk M_m_Letters_letter (hr.mono (by decide)) (qv 0) (Zb (qv 1) Zf)))
   (Ze (zd (Z7 Zx5 (qv 2) ZbU) (Zo (ZI ZbU)) ZM)
   (Zo (ZI (Zfe Z0.toTk M_m_Letters_row_with (hr.mono (by decide)) (qv 0) (Zb (qv 2) (Zb (qv 1) Zf))))))),?_⟩
  simp only [L2.ZR,map_cons,map_nil,length_cons,length_nil,replicate_succ,replicate_zero,cons_append,nil_append,Nat.reduceAdd,Nat.reduceSub,decide_eq_true_eq,set_cons_zero,set_cons_succ,gS,ZE,tC,zG,zf,Z3,Zz,zP,YH,Zx,ZL,tB2,isV,Ze8,append_nil,Z6,zj]
  have il':=il
  obtain ⟨dx,tot,fo,hx,_,hm⟩:=il'
  refine ⟨a,_,_,rfl,hx,rfl,cs,h,il,hl,e,fun hh=>?_⟩
  have q:=q hh
  by_cases e0:r=(h:Int)
  ·subst e0
   rw [Int.toNat_natCast,LO.ZjR hm] at q
   simp only [if_pos]
   exact q
  ·have n0:r.toNat≠h:=by omega
   rw [LO.Zgk hm h10 (by omega) n0] at q
   simp only [L_T,if_neg e0]
   refine ⟨a,_,_,rfl,hx,rfl,cs,h,_,il,hl,L_T _,fun z=>absurd ⟨hh.1,by omega⟩ z,fun _=>?_⟩
   exact q
def Jy (K:PySem.W.Frag) (c:Cs) (C:Addr) (tb:Addr):Sp:=fun vs H Q E=>match vs with
 |[.str z,.int h]=>(L z).length<=62/\(∀c∈L z,c≠10)/\Zr tb H/\(¬(0<=h/\h<=(L z).length)->∀H',ZS H H'->Yq tb H H'->Zr tb H'->E (.ref c.NoPlace) none H')/\
  ((0<=h/\h<=(L z).length)->∀m,m<=(L z).length->LO.rd (LO.rsL (L z) h.toNat) m=some h.toNat->∀p H',ZS H H'->Yq tb H H'->Zr tb H'->H p=none->H' p=some (.lst (((List.range (m+1)).map fun i=>(((LO.rd (LO.rsL (L z) h.toNat) i).getD 0:Nat):Int)).map V.int))->Q (.ref p) H')
 |_=>False
theorem Zgb {f:Addr} {fd:FuncData} (F:Fun K "road_of" "road_of" Jd f fd) (B:Bn mg) {Zd:Addr} {c:Cs} (ER:Er K mg c) {Zp Zh Zi:Addr} (TP:Tp K w.params mg Zp Zh Zi) {Zc Zm:Addr} (CF:Cf K Zc Zm) (GC:Gc mg) (MK_Letters:Mkr P w K mg base (CX1 P w) 3 "Letters" Zc zS [] (zh K c Zc Zd)) (M_m_Letters_back:Md P w K mg base (CX1 P w) 4 Zc "back" Yw [] (Yh K c Zc)):Z4 P w K mg base (CX1 P w) 5 f fd JX (Jy K c Zc Zd):=by
 refine F.okX Ji (fun vs H Q E h=>?_) (fun cdv A outer s H vs Q E hr h=>?_)<;>unfold Jy at h<;>split at h<;>first|exact h.elim|skip
 ·rfl
 ·rename_i z h
  obtain ⟨hl,h10,bk,e,q⟩:=h
  refine ⟨_,(Ze (Zu (i:=2) Ji.nd rfl (by first|exact Or.inl rfl|exact Or.inr rfl) (Zna Z0.toTk MK_Letters (hr.mono (by decide)) (Zb (qv 0) (Zb (qv 1) Zf))))
   (Ze (Zu (i:=3) Ji.nd rfl (by first|exact Or.inl rfl|exact Or.inr rfl) Zl)
   (Ze (Zu (i:=4) Ji.nd rfl (by first|exact Or.inl rfl|exact Or.inr rfl) (ZcC (Zb (qv 3) Zf)))
   (Ze (Zhl Z0.own (Z7 Zfr (qv 3) (qv 1)) (Ze (Zu (i:=3) Ji.nd rfl (by first|exact Or.inl rfl|exact Or.inr rfl) (Zfe Z0.toTk M_m_Letters_back (hr.mono (by decide)) (qv 2) (Zb (qv 3) Zf)))
   (Zo (qM (zH (K:=K) rfl PySem.F.plainAttrs_list PySem.F.slot_list_append PySem.F.type_list_append Zaj (qv 4) (Zb (qv 3) Zf))))))
   (Zo (ZI (qv 4))))))),?_⟩
  simp only [L2.ZR,map_cons,map_nil,length_cons,length_nil,replicate_succ,replicate_zero,cons_append,nil_append,Nat.reduceAdd,Nat.reduceSub,true_and,String.reduceEq,set_cons_zero,set_cons_succ,gS,ZE,tC,zG,Z3,Zz,zP,ZaM,Zx,ZL,Zh3,tB2,neR,sc,tBM,tyV,ZaK,Ze8,Zil,append_nil,zh,tWh]
  have hsz:sizeLine=16777216:=sizeLine_eq
  intro x dx hx hdx hne
  have hdx2:upd H dx (HO.own x) x=none:=(Zn (Ne.symm hne)).trans hx
  refine ⟨hl,(bk.put hdx).put hdx2,⟨dx,Zj⟩,fun hh=>e hh _ ((Zw.upd (Zw.updN hdx) hdx2).toN) ((Zw.upd (Zw.updN hdx) hdx2).toE) ((bk.put hdx).put hdx2),fun hh H1 kp1 nn1 se1 bk1 il1=>?_⟩
  obtain ⟨g,rfl⟩:∃g:Nat,h=(g:Int):=⟨h.toNat,by omega⟩
  have hg:g<=(L z).length:=by omega
  rw [Int.toNat_natCast] at il1
  have q:=q hh
  rw [Int.toNat_natCast] at q
  have smN:=Zf3 hx hdx kp1 nn1
  have smE:=Zen hx hdx se1
  obtain ⟨m,hm,em⟩:=LO.Zf1 hg h10
  refine ⟨by omega,fun p hp=>?_⟩
  have kx:∀xs b o,H1 b=some o->upd H1 p (HO.lst xs) b=some o:=fun xs b o e=>(Zn (Zq e hp)).trans e
  refine ⟨fun k σ H2=>∃i r:Nat,k=m-i/\i<=m/\LO.rd (LO.rsL (L z) g) i=some r/\σ=[some (V.str z),some (V.int (g:Int)),some (V.ref x),some (V.int (r:Int)),some (V.ref p)]/\H2=upd H1 p (HO.lst (((List.range (i+1)).map fun i=>(((LO.rd (LO.rsL (L z) g) i).getD 0:Nat):Int)).map V.int)),⟨_,0,0,rfl,Nat.zero_le _,rfl,rfl,rfl⟩,?_⟩
  rintro k σ H2 ⟨i,r,rfl,hi,er,rfl,rfl⟩
  simp only [set_cons_zero,set_cons_succ,gS,Yh]
  have hr2:=LO.ZfV er
  refine z7 (fun hn=>?_) fun hn=>?_
  ·have n0:r≠g:=fun w=>by
    subst w
    simp at hn
   obtain ⟨b,eb,er2⟩:=LO.Zee hg h10 er n0
   have hlt:i<m:=by
    rcases Nat.lt_or_ge i m with z|z
    ·exact z
    ·cases Nat.le_antisymm hi z
     rw [em] at er
     cases er
     exact absurd rfl n0
   have il2:=il1.same fun b o e _=>kx (((List.range (i+1)).map fun i=>(((LO.rd (LO.rsL (L z) g) i).getD 0:Nat):Int)).map V.int) b o e
   have il':=il2
   obtain ⟨dx2,tot,fo,hx2,_,_⟩:=il'
   refine ⟨x,_,_,rfl,hx2,rfl,_,_,il2,by omega,h10,fun w=>absurd ⟨by omega,by omega⟩ w,fun _=>?_⟩
   rw [Int.toNat_natCast,eb]
   simp only [ZqQ]
   refine ⟨.inl ⟨_,SqL.of Zj⟩,p,_,_,rfl,rfl,Zj,by rw [length_map,length_map,length_range];omega,m-(i+1),by omega,i+1,b,rfl,hlt,er2,rfl,?_⟩
   rw [Zbj,List.range_succ (n:=i+1),map_append,map_append,map_singleton,map_singleton,er2]
   rfl
  ·have n0:r=g:=by
    simp at hn
    omega
   subst n0
   cases LO.Zcx er em
   exact q _ hm er _ _ (smN.upd hp) (smE.upd hp) (bk1.put hp) (smN.free hp) Zj
def qf (K:PySem.W.Frag) (c:Cs) (C:Addr) (tb:Addr):Sp:=fun vs H Q E=>match vs with
 |[.str z,.int h]=>(L z).length<=62/\(∀c∈L z,c≠10)/\Zr tb H/\(¬(0<=h/\h<=(L z).length)->∀H',ZS H H'->Yq tb H H'->Zr tb H'->E (.ref c.NoPlace) none H')/\
  ((0<=h/\h<=(L z).length)->∀m,m<=(L z).length->LO.rd (LO.rsL (L z) h.toNat) m=some h.toNat->∀H',ZS H H'->Yq tb H H'->Zr tb H'->(m≠(L z).length->E (.ref c.NoText) none H')/\(m=(L z).length->Q (.str (T (LO.Zde (LO.rsL (L z) h.toNat) (L z).length))) H'))
 |_=>False
theorem Ze4 {f:Addr} {fd:FuncData} (F:Fun K "read_back" "read_back" Y0 f fd) (B:Bn mg) {Zd:Addr} {c:Cs} (ER:Er K mg c) {Zp Zh Zi:Addr} (TP:Tp K w.params mg Zp Zh Zi) {Zc Zm:Addr} (CF:Cf K Zc Zm) (GC:Gc mg) (ZbQ:FnX P w K mg base 5 "road_of" JX (Jy K c Zc Zd)) (MK_Letters:Mkr P w K mg base (CX1 P w) 3 "Letters" Zc zS [] (zh K c Zc Zd)) (M_m_Letters_letter:Md P w K mg base (CX1 P w) 2 Zc "letter" zp [] (Z6 K c Zc)):Z4 P w K mg base (CX1 P w) 6 f fd qC (qf K c Zc Zd):=by
 refine F.okX Jn (fun vs H Q E h=>?_) (fun cdv A outer s H vs Q E hr h=>?_)<;>unfold qf at h<;>split at h<;>first|exact h.elim|skip
 ·rfl
 ·rename_i z h
  obtain ⟨hl,h10,bk,e,q⟩:=h
  refine ⟨_,(Ze (Zu (i:=2) Jn.nd rfl (by first|exact Or.inl rfl|exact Or.inr rfl) (qh Z0.toTk ZbQ (hr.mono (by decide)) (Zb (qv 0) (Zb (qv 1) Zf))))
   (Ze (zd (Z7 Zfr (ZH (zr (K:=K) rfl) (by rfl) B.len zo (Zb (qv 2) Zf)) (Zv ZN (ZH (zr (K:=K) rfl) (by rfl) B.len zo (Zb (qv 0) Zf)) Zl)) (Zo (YT Z0 rfl ER.x_NoText rfl ER.m_NoText (Zb Zs Zf))) ZM)
   (Ze (Zu (i:=3) Jn.nd rfl (by first|exact Or.inl rfl|exact Or.inr rfl) (Zna Z0.toTk MK_Letters (hr.mono (by decide)) (Zb (qv 0) (Zb (qv 1) Zf))))
   (Ze (Zmk (i₀:=4) (K:=K) rfl (own:=["row"]) (cp:=[(("home":Str),1),(("held":Str),3)]) rfl rfl rfl (by decide +kernel) (by decide +kernel) ⟨⟨rfl,rfl,rfl⟩,⟨rfl,rfl,rfl⟩,trivial⟩ (qv 2) (by decide) (fun _ _ _ _=>zb (i:=0) (show List.Nodup (["row","home","held"]:List Str) by decide +kernel) rfl (Or.inl rfl) (Or.inr rfl)) (fun _ _ _ _=>Zek (Z7 Zfr (qv 0) (qv 1))) (fun _ _ _ _=>(ZrT M_m_Letters_letter.quiet (hr.mono (by decide)) (qv 2) (Zb (qv 0) Zf))) Jn.nd rfl rfl)
   (Zo (ZI (ZiW (K:=K) rfl rfl B.reversed Zs (qv 4)))))))),?_⟩
  simp only [L2.ZR,map_cons,map_nil,length_cons,length_nil,replicate_succ,replicate_zero,cons_append,nil_append,Nat.reduceAdd,Nat.reduceSub,true_and,set_cons_zero,set_cons_succ,gS,ZE,tC,zG,zf,Z3,Zz,zP,YH,tOp,tCB,Zx,ZL,tB2,Y5,neR,sc,Jz,JJ,Zcd,tCL,ZcJ,J6,ZrO,ZjL,Zjn,Zil,append_nil,zh,Jy]
  have hsz:sizeLine=16777216:=sizeLine_eq
  refine ⟨hl,h10,bk,e,fun hh m hm em p H1 sm1 se1 bk1 hp h1=>?_⟩
  have q:=q hh m hm em
  obtain ⟨g,rfl⟩:∃g:Nat,h=(g:Int):=⟨h.toNat,by omega⟩
  have hg:g<=(L z).length:=by omega
  rw [Int.toNat_natCast] at q em
  rw [Int.toNat_natCast] at h1
  refine ⟨_,.inl (SqL.of h1),by omega,?_⟩
  rw [length_map,length_map,length_range]
  refine z7 (fun hn=>?_) fun hn=>?_
  ·exact ⟨by decide,(q H1 sm1 se1 bk1).1 (by rintro rfl;simp at hn)⟩
  have mn:m=(L z).length:=by
   simp at hn
   omega
  subst mn
  intro x dx hx hdx hne
  have hdx2:upd H1 dx (HO.own x) x=none:=(Zn (Ne.symm hne)).trans hx
  refine ⟨hl,(bk1.put hdx).put hdx2,⟨dx,Zj⟩,fun z=>absurd hh z,fun _ H2 kp2 nn2 se2 bk2 il2=>?_⟩
  have sm2:=Zf3 hx hdx kp2 nn2
  have se2:=Zen hx hdx se2
  rw [Int.toNat_natCast] at il2
  have h2:=sm2.at h1 (by nofun)
  have il':=il2
  obtain ⟨dx2,tot,fo,hx2,_,_⟩:=il'
  refine ⟨_,SqL.of h2,by rw [length_map,length_map,length_range];omega,fun i H3 acc=>H3=H2/\acc=((List.range (min i (L z).length)).map fun j=>[(zV (L z) g).getD ((LO.rd (LO.rsL (L z) g) j).getD 0) 0]).map fun l=>V.str (T l),⟨rfl,by rw [Nat.zero_min];rfl⟩,?_,?_,?_⟩
  ·rintro i H3 acc _ ⟨rfl,_⟩
   exact SqL.of h2
  ·rintro i y H3 acc hy ⟨rfl,rfl⟩
   rw [List.getElem?_map,List.getElem?_map] at hy
   obtain ⟨n1,e1,rfl⟩:=Option.map_eq_some_iff.mp hy
   obtain ⟨n2,e2,rfl⟩:=Option.map_eq_some_iff.mp e1
   have hi:i<(L z).length+1:=by simpa using (List.getElem?_eq_some_iff.mp e2).1
   rw [List.getElem?_range hi] at e2
   cases Option.some.inj e2
   obtain ⟨r,er⟩:=LO.Zca em (show i<=(L z).length by omega)
   have hr2:=LO.ZfV er
   rw [er]
   simp only [true_and,Z6,Option.getD_some]
   refine z7 (fun hn=>?_) fun hn=>?_
   ·have n0:r≠g:=fun w=>by
     subst w
     simp at hn
    have hlt:i<(L z).length:=by
     rcases Nat.lt_or_ge i (L z).length with w1|w1
     ·exact w1
     ·have:i=(L z).length:=by omega
      subst this
      rw [em] at er
      cases er
      exact absurd rfl n0
    refine ⟨x,_,_,rfl,hx2,rfl,_,_,il2,by omega,fun w=>absurd ⟨by omega,by omega⟩ w,fun _=>?_⟩
    rw [if_neg (by omega),Int.toNat_natCast]
    rw [Nat.min_eq_left (by omega),Nat.min_eq_left (by omega),List.range_succ,map_append,map_append,map_singleton,map_singleton,er]
    rfl
   ·have n0:r=g:=by
     simp at hn
     omega
    subst n0
    have:=LO.Zcx er em
    subst this
    rw [Nat.min_self,Nat.min_eq_right (by omega)]
  ·rintro H3 acc ⟨rfl,rfl⟩ l hl2
   rw [length_map,length_map,length_range,Nat.min_eq_right (by omega)]
   refine ⟨_,SqL.of Zj,?_,?_⟩
   ·rw [show (L (Str.ofString "")).length=0 by decide +kernel,Nat.mul_zero,LO.Zhb _ _ fun _=>rfl]
    omega
   ·have e0:L (Str.ofString "")=[]:=by decide +kernel
    rw [e0,qy,LO.ZfZ hg em _ (Nat.le_refl _)]
    exact (q _ ((sm1.trans sm2).upd hl2) ((se1.trans se2).upd hl2) (bk2.put hl2)).2 rfl
def qB (K:PySem.W.Frag) (tb:Addr):Sp:=fun vs H Q _=>match vs with
 |[.str z]=>(L z).length<=62/\ZT tb H/\∀p H',ZS H H'->Yq tb H H'->ZT tb H'->H p=none->H' p=some (.lst ((LO.ord (L z)).map fun i:Nat=>V.int i))->Q (.ref p) H'
 |_=>False
theorem ZfA {f:Addr} {fd:FuncData} (F:Fun K "order_of" "order_of" qx f fd) (B:Bn mg) {Zg:Addr} {cd:Addr} (LM_p_order_of:Lm mg base cd Zg) (hcd:fd.code=.ref cd) {c:Cs} (ER:Er K mg c) {Zp Zh Zi:Addr} (TP:Tp K w.params mg Zp Zh Zi) {Zc Zm:Addr} (CF:Cf K Zc Zm) (GC:Gc mg):Z4 P w K mg base CX0 3 f fd Jv (qB K Zg):=by
 refine F.okL hcd Zfu (fun vs H Q E h=>?_) (fun A outer s H vs Q E hr h=>?_)<;>unfold qB at h<;>split at h<;>first|exact h.elim|skip
 ·rfl
 ·rename_i z
  obtain ⟨hl,bk,q⟩:=h
  refine ⟨_,(Zo (ZI (ZeU (K:=K) (x:="place") (cp:=[(("text":Str),0)]) (q:=Zcr) rfl rfl (hr.mono (by decide)) (LM_p_order_of.at rfl) rfl B.sorted rfl rfl rfl rfl (by decide +kernel) ⟨⟨rfl,rfl,rfl⟩,trivial⟩ rfl (by decide +kernel) rfl rfl (fun _ _ _ _=>rfl) (Zb (zF ZgR (by rfl) B.range ZeE (Zb (Zv ZN (ZH (zr (K:=K) rfl) (by rfl) B.len zo (Zb (qv 0) Zf)) Zl) Zf)) Zf) (fun _ _ _ _ _ _=>(qj (ZbK (K:=K) rfl) (qv 1) (ZcZ (qv 0)) Zaw))))),?_⟩
  simp only [L2.ZR,map_cons,map_nil,length_cons,length_nil,replicate_zero,cons_append,nil_append,Nat.reduceAdd,Nat.reduceSub,true_and,gS,ZE,tC,zP,tOp,tCB,Zx,ZL,tSl,ZaN,pT,Y5,slV,Jz,Zgy,Zfy,Znl]
  have hsz:sizeLine=16777216:=sizeLine_eq
  have er:Za8 0 (((L z).length:Int)+1)=(List.range ((L z).length+1)).map fun j:Nat=>V.int j:=Zj4 _
  have el:(Za8 0 (((L z).length:Int)+1)).length=(L z).length+1:=by rw [er];simp
  refine ⟨by omega,fun r hr0=>⟨_,(List.range ((L z).length+1)).map (fun j=>(L z).drop j),.inr (.inr ⟨0,_,Zj,rfl,by omega,by omega,by omega,by omega⟩),by omega,by rw [el];simp,bk.put hr0,fun H2 i y sm hy=>?_,fun H2 l1 p sm se bk2 hl2 pm pw=>?_⟩⟩
  ·have hi:=(List.getElem?_eq_some_iff.mp hy).1
   rw [el] at hi
   rw [er,List.getElem?_map,List.getElem?_range hi] at hy
   cases Option.some.inj hy
   refine ⟨by omega,?_⟩
   rw [qc _ _ hi,ZbX]
  ·rw [el] at pm
   have plt:∀j∈p,j<(L z).length+1:=fun j hj=>List.mem_range.mp (pm.mem_iff.mp hj)
   have ep:p=LO.ord (L z):=by
    refine LO.ZhN pm (pw.imp_of_mem fun {i j} hi hj h=>?_)
    have h:=h.1
    rw [qc _ _ (plt i hi),qc _ _ (plt j hj)] at h
    exact h
   have sm0:Zw H (upd H r (HO.rng 0 (((L z).length:Int)+1))):=Zw.updN hr0
   have sm1:=(Zw.toN sm0).trans sm
   refine q l1 _ (sm1.upd hl2) (((Zw.toE sm0).trans se).upd hl2) (bk2.put hl2) (sm1.free hl2) ?_
   rw [Zj]
   congr 2
   rw [<-ep]
   refine map_congr_left fun j hj=>?_
   rw [er,qc _ _ (plt j hj)]
def Yg (K:PySem.W.Frag) (tb:Addr):Sp:=fun vs H Q _=>match vs with
 |[.str z]=>(L z).length<=62/\ZT tb H/\∀p H',ZS H H'->Yq tb H H'->ZT tb H'->H p=none->H' p=some (.tup [.str (T (LO.Z5 (L z))),.int (LO.Zdg (L z))])->Q (.ref p) H'
 |_=>False
theorem Zc8 {f:Addr} {fd:FuncData} (F:Fun K "last_letters" "last_letters" zQ f fd) (B:Bn mg) {Zg:Addr} {c:Cs} (ER:Er K mg c) {Zp Zh Zi:Addr} (TP:Tp K w.params mg Zp Zh Zi) {Zc Zm:Addr} (CF:Cf K Zc Zm) (GC:Gc mg) (Zbm:Fn P w K mg base 3 "order_of" Jv (qB K Zg)):Z4 P w K mg base CX0 4 f fd Yt (Yg K Zg):=by
 refine F.ok Ju (fun vs H Q E h=>?_) (fun cdv A outer s H vs Q E hr h=>?_)<;>unfold Yg at h<;>split at h<;>first|exact h.elim|skip
 ·rfl
 ·rename_i z
  obtain ⟨hl,bk,q⟩:=h
  refine ⟨_,(Ze (Zu (i:=1) Ju.nd rfl (by first|exact Or.inl rfl|exact Or.inr rfl) (zk Zbm (hr.mono (by decide)) (Zb (qv 0) Zf)))
   (Ze (Zu (i:=2) Ju.nd rfl (by first|exact Or.inl rfl|exact Or.inr rfl) (zH (K:=K) rfl PySem.F.plainAttrs_str PySem.F.slot_str_join PySem.F.type_str_join (Zb1 (K:=K) rfl) Zs (Zb (Ze7 (K:=K) rfl (own:=["place"]) (cp:=[(("text":Str),0)]) rfl rfl rfl (by decide +kernel) (by decide +kernel) ⟨⟨rfl,rfl,rfl⟩,trivial⟩ (qv 1) (by decide) (fun _ _ _ _=>zb (i:=0) (show List.Nodup (["place","text"]:List Str) by decide +kernel) rfl (Or.inl rfl) (Or.inr rfl)) (fun _ _ _ _=>Zek (Z7 Zd4 (qv 0) Zl)) (fun _ _ _ _=>(ZX (Z1 (K:=K) rfl) (qv 1) (Zv ZeD (qv 0) Zl) (fun _ _=>rfl)))) Zf)))
   (Zo (ZI (Yv (Zb (qv 2) (Zb (zH (K:=K) rfl PySem.F.plainAttrs_list PySem.F.slot_list_index PySem.F.type_list_index (Zjo (K:=K) rfl) (qv 1) (Zb Zl Zf)) Zf))))))),?_⟩
  simp only [L2.ZR,map_cons,map_nil,length_cons,length_nil,replicate_succ,replicate_zero,cons_append,nil_append,Nat.reduceAdd,Nat.reduceSub,true_and,decide_eq_true_eq,String.reduceEq,set_cons_zero,set_cons_succ,gS,ZE,tC,zG,Z3,Zz,zP,tOp,Zx,ZL,Zbv,tFn,tB2,Jg,ixV,ZcV,tBM,tyV,ZxA,tCL,ZcJ,J6,gtV,ZkF,qB]
  have hsz:sizeLine=16777216:=sizeLine_eq
  refine ⟨hl,bk,fun p H1 sm1 se1 bk1 hp h1=>?_⟩
  rw [LO.Zp6] at h1
  have ol:=LO.JI (L z)
  refine ⟨_,SqL.of h1,by rw [length_map,length_map];omega,fun i H2 acc=>H2=H1/\acc=(LO.ltk (L z) i).map fun c=>V.str (T [c]),⟨rfl,rfl⟩,?_,?_,?_⟩
  ·rintro i H2 acc _ ⟨rfl,_⟩
   exact SqL.of h1
  ·rintro i y H2 acc hy ⟨rfl,rfl⟩
   rw [<-LO.Zp6,List.getElem?_map] at hy
   obtain ⟨j,ej,rfl⟩:=Option.map_eq_some_iff.mp hy
   have hj:j<=(L z).length:=LO.Zaf.mp (List.mem_of_getElem? ej)
   simp only [true_and]
   refine z7 (fun h0=>⟨by omega,_,zJ 0 (by omega) (by omega),?_⟩) fun h0=>?_
   ·rw [LO.Zhp ej (by omega),map_append,show ((j:Int)-1).toNat=j-1 by omega]
    rfl
   ·have:j=0:=by omega
    subst this
    rw [LO.Zhx ej]
  ·rintro H2 acc ⟨rfl,rfl⟩ l hl2
   rw [length_map,length_map,LO.Zec (L z) (by omega),ZcU]
   have ll:(LO.Z5 (L z)).length<=63:=by
    have:=LO.Zkp (L z) ((L z).length+1)
    rw [LO.Zec (L z) (Nat.le_refl _)] at this
    omega
   refine ⟨(LO.Z5 (L z)).map fun c=>[c],SqL.of (by rw [Zj,map_map];rfl),?_,?_⟩
   ·rw [ZpV (fun c:Nat=>c),length_map,length_nil]
    omega
   ·rw [qy,Zkl (fun c:Nat=>c),List.map_id']
    have h2:upd H2 l (HO.lst ((LO.Z5 (L z)).map fun c=>V.str (T [c]))) p=some (HO.lst (((LO.ord (L z)).map fun i:Nat=>(i:Int)).map V.int)):=by rw [Zn (Zq h1 hl2)];exact h1
    refine ⟨.inl ⟨_,SqL.of h2⟩,p,_,rfl,SqL.of h2,LO.ZeY _,by omega,fun p1 hp1=>?_⟩
    rw [LO.Zhk]
    exact q p1 _ ((sm1.upd hl2).upd hp1) ((se1.upd hl2).upd hp1) ((bk1.put hl2).put hp1) ((sm1.upd hl2).free hp1) Zj
theorem ZcH {H:Hp} {t:Addr} {o:HO} (h:H t=some o):upd H t o=H:=by
 funext b
 by_cases e:b=t
 ·subst e
  rw [Zj,h]
 ·exact Zn e
theorem ZfJ {P:Addr} {pos:Pos} {q:Str} {H:Hp} {t:Addr} {kvs:List (Key×V)} {o:HO} (h:Bk P pos q H) (ht:H t=some (.dK kvs)):Bk P pos q (upd H t o):=by
 rcases h with h|⟨c',h1,h2⟩
 ·refine .inl ((Zn fun w=>?_).trans h)
  rw [w,ht] at h
  cases h
 ·refine .inr ⟨c',(Zn fun w=>?_).trans h1,(Zn fun w=>?_).trans h2⟩
  ·rw [w,ht] at h1
   cases h1
  ·rw [w,ht] at h2
   cases h2
structure SD (tb1 tb2:Addr) (H H':Hp):Prop where
 same:ZS H H'
 b1:Zr tb1 H'
 b2:ZT tb2 H'
 b3:∀P pos q,P≠tb1->P≠tb2->Bk P pos q H->Bk P pos q H'
section
variable {tb1 tb2:Addr} {H H1 H2:Hp}
theorem SD.of (s:Zw H H1) (b1:Zr tb1 H) (b2:ZT tb2 H):SD tb1 tb2 H H1:=⟨s.toN,Jl b1 s,Jl b2 s,fun P pos q _ _ b=>Jl b s⟩
theorem SD.trans (a:SD tb1 tb2 H H1) (b:SD tb1 tb2 H1 H2):SD tb1 tb2 H H2:=⟨a.same.trans b.same,b.b1,b.b2,fun P pos q n1 n2 h=>b.b3 P pos q n1 n2 (a.b3 P pos q n1 n2 h)⟩
theorem SD.ofL (s:ZS H H1) (e:Yq tb1 H H1) (b:Zr tb1 H) (b':Zr tb1 H1) (b2:ZT tb2 H) (ne:tb1≠tb2):SD tb1 tb2 H H1:=⟨s,b',b2.keep b (Ne.symm ne) e,fun P pos q n1 _ h=>Bk.keep h b n1 e⟩
theorem SD.ofO (s:ZS H H1) (e:Yq tb2 H H1) (b:ZT tb2 H) (b':ZT tb2 H1) (b1:Zr tb1 H) (ne:tb1≠tb2):SD tb1 tb2 H H1:=⟨s,b1.keep b ne e,b',fun P pos q _ n2 h=>Bk.keep h b n2 e⟩
theorem SD.dk {t:Addr} {kvs kvs':List (Key×V)} (a:SD tb1 tb2 H H1) (ht:H t=some (.dK kvs)):SD tb1 tb2 (upd H t (.dK kvs')) (upd H1 t (.dK kvs')):=by
 have h1:=a.same.at ht (by nofun)
 refine ⟨fun b u h=>?_,ZfJ a.b1 h1,ZfJ a.b2 h1,fun P pos q n1 n2 h=>?_⟩
 ·by_cases e:b=t
  ·subst e
   rw [Zj] at h ⊢
   exact ⟨by simp,fun _=>h⟩
  ·rw [Zn e] at h ⊢
   exact a.same b u h
 ·refine ZfJ (a.b3 P pos q n1 n2 ?_) h1
  have nt:∀{b:Addr} {u:HO},upd H t (.dK kvs') b=some u->(∀k,u≠ .dK k)->H b=some u:=fun {b u} h n=>by
   by_cases e:b=t
   ·subst e
    rw [Zj] at h
    exact absurd (Option.some.inj h).symm (n _)
   ·rw [Zn e] at h
    exact h
  rcases h with h|⟨c',h2,h3⟩
  ·exact .inl (nt h (by nofun))
  ·exact .inr ⟨c',nt h2 (by nofun),nt h3 (by nofun)⟩
end
def zu (K:PySem.W.Frag) (c:Cs) (C:Addr) (tb:Addr):Sp:=fun vs H Q E=>match vs with
 |[.ref t,.ref d]=>∃kept ws,H t=some (.dK (txK kept))/\kept.length<=1000/\H d=some (.dK (qz 0 ws))/\(ws.getD 2 []).length<=5000/\Zr tb H/\((∀h rs,¬Pk (ws.getD 2 []) h rs)->∀H',Zw H H'->E (.ref c.NoRow) none H')/\
  ∀h rs,Pk (ws.getD 2 []) h rs->(flat rs).length<=62/\(∀c∈flat rs,c≠10)/\∀m,m<=(flat rs).length->LO.rd (LO.rsL (flat rs) h) m=some h->∀H',ZS H H'->Yq tb H H'->Zr tb H'->(m≠(flat rs).length->E (.ref c.NoText) none H')/\(m=(flat rs).length->Q (.str (Str.ofString "ok")) (upd H' t (.dK (txK (Zcc kept (ws.getD 1 []) (LO.Zde (LO.rsL (flat rs) h) (flat rs).length))))))
 |_=>False
theorem ZdJ {f:Addr} {fd:FuncData} (F:Fun K "answer_load" "answer_load" Ye f fd) (B:Bn mg) {Zd:Addr} {c:Cs} (ER:Er K mg c) {Zp Zh Zi:Addr} (TP:Tp K w.params mg Zp Zh Zi) {Zc Zm:Addr} (CF:Cf K Zc Zm) (GC:Gc mg) (Zbp:FnX P w K mg base 3 "unpacked" Jw (qI K c)) (ZaP:FnX P w K mg base 6 "read_back" qC (qf K c Zc Zd)) (Y1:FnX P w K mg base 1 "keep_text" YX (zZ K c)):Z4 P w K mg base (CX1 P w) 7 f fd YV (zu K c Zc Zd):=by
 refine F.okX Zbe (fun vs H Q E h=>?_) (fun cdv A outer s H vs Q E hr h=>?_)<;>unfold zu at h<;>split at h<;>first|exact h.elim|skip
 ·rfl
 ·rename_i t d
  obtain ⟨kept,ws,ht,hk,hd,hxl,bk,e,q⟩:=h
  refine ⟨_,(Ze (Zu (i:=2) Zbe.nd rfl (by first|exact Or.inl rfl|exact Or.inr rfl) (qh Z0.toTk Zbp (hr.mono (by decide)) (Zb (Yr (Y7 hr) (qv 1) Zs (fun _ _=>rfl)) Zf)))
   (Zo (ZI (qh Z0.toTk Y1 (hr.mono (by decide)) (Zb (qv 0) (Zb (Yr (Y7 hr) (qv 1) Zs (fun _ _=>rfl)) (Zb (qh Z0.toTk ZaP (hr.mono (by decide)) (Zb (ZX (Z1 (K:=K) rfl) (qv 2) Zl (fun _ _=>rfl)) (Zb (ZX (Z1 (K:=K) rfl) (qv 2) Zl (fun _ _=>rfl)) Zf))) Zf))))))),?_⟩
  simp only [L2.ZR,map_cons,map_nil,length_cons,length_nil,replicate_succ,replicate_zero,cons_append,nil_append,Nat.reduceAdd,Nat.reduceSub,set_cons_zero,set_cons_succ,gS,ZE,tC,zG,Z3,Zz,zP,tOp,Zx,ZL,ixV,Zcd,Zbr]
  refine ⟨d,_,rfl,ZhB ws▸DGet.kys hd "rest",?_⟩
  simp only [qI,L_T]
  refine ⟨by omega,fun h rs pk p H1 s1 hp h1=>?_,fun n=>e n⟩
  obtain ⟨fl,f10,q⟩:=q h rs pk
  refine ⟨d,_,rfl,Zas 0 ws▸DGet.kys (s1 d _ hd) "name",_,_,.inr (SqT.of h1),rfl,_,_,.inr (SqT.of h1),rfl,?_⟩
  simp only [qf,L_T]
  have hh:=pk.2.2.1
  refine ⟨fl,f10,Jl bk s1,fun w=>absurd ⟨by omega,by omega⟩ w,fun _ m hm em H2 s2 se2 bk2=>?_⟩
  rw [Int.toNat_natCast] at em ⊢
  obtain ⟨q1,q2⟩:=q m hm em H2 (s1.toN.trans s2) (s1.toE.trans se2) bk2
  refine ⟨q1,fun e1=>?_⟩
  simp only [zZ,L_T]
  have le:(LO.Zde (LO.rsL (flat rs) h) (flat rs).length).length<=62:=by
   rw [<-e1,LO.ZbB em]
   omega
  exact ⟨kept,s2.at (s1 t _ ht) (by nofun),hk,by omega,fun _=>q2 e1,fun w=>absurd w (by omega)⟩
def zx (K:PySem.W.Frag) (c:Cs) (tb:Addr):Sp:=fun vs H Q E=>match vs with
 |[.ref t,.ref d]=>∃kept i ws x,H t=some (.dK (txK kept))/\H d=some (.dK (qz i ws))/\zC kept (ws.getD 1 [])=some x/\x.length<=62/\ZT tb H/\∀rs,YS rs->flat rs=LO.Z5 x->∀H',ZS H H'->Yq tb H H'->ZT tb H'->Q (.str (T (ZJ (LO.Zdg x:Nat)++32::wr rs))) H'
 |_=>False
theorem Zdu {f:Addr} {fd:FuncData} (F:Fun K "answer_pack" "answer_pack" Yc f fd) (B:Bn mg) {Zg:Addr} {c:Cs} (ER:Er K mg c) {Zp Zh Zi:Addr} (TP:Tp K w.params mg Zp Zh Zi) {Zc Zm:Addr} (CF:Cf K Zc Zm) (GC:Gc mg) (JL:Fn P w K mg base 4 "last_letters" Yt (Yg K Zg)) (JM:FnX P w K mg base 2 "packed" JH (qb K c)):Z4 P w K mg base (CX1 P w) 5 f fd YR (zx K c Zg):=by
 refine F.okX Zbc (fun vs H Q E h=>?_) (fun cdv A outer s H vs Q E hr h=>?_)<;>unfold zx at h<;>split at h<;>first|exact h.elim|skip
 ·rfl
 ·rename_i t d
  obtain ⟨kept,i,ws,x,ht,hd,hx,xl,bk,q⟩:=h
  refine ⟨_,(Ze (Zu (i:=2) Zbc.nd rfl (by first|exact Or.inl rfl|exact Or.inr rfl) (zk JL (hr.mono (by decide)) (Zb (Yr (Y7 hr) (qv 0) (Yr (Y7 hr) (qv 1) Zs (fun _ _=>rfl)) (fun _ _=>rfl)) Zf)))
   (Zo (ZI (qh Z0.toTk JM (hr.mono (by decide)) (Zb (ZX (Z1 (K:=K) rfl) (qv 2) Zl (fun _ _=>rfl)) (Zb (ZX (Z1 (K:=K) rfl) (qv 2) Zl (fun _ _=>rfl)) Zf)))))),?_⟩
  simp only [L2.ZR,map_cons,map_nil,length_cons,length_nil,replicate_succ,replicate_zero,cons_append,nil_append,Nat.reduceAdd,Nat.reduceSub,set_cons_zero,set_cons_succ,gS,ZE,tC,zG,Z3,Zz,zP,tOp,Zx,ZL,tFn,ixV,Zcd,Zbr]
  have hv:z6 (txK kept) (.inr (T (ws.getD 1 [])))=some (V.str (T x)):=by rw [Zaa,hx];rfl
  refine ⟨d,_,rfl,Zas i ws▸DGet.kys hd "name",t,_,rfl,hv▸DGet.k (k:=.inr (T (ws.getD 1 []))) ht,?_⟩
  simp only [Yg,L_T]
  refine ⟨xl,bk,fun p H1 s1 se1 bk1 hp h1=>⟨_,_,.inr (SqT.of h1),rfl,_,_,.inr (SqT.of h1),rfl,?_⟩⟩
  simp only [qb,L_T]
  have ll:=LO.Zb0 x
  have hh:=LO.Zef x
  refine ⟨by omega,fun w=>absurd ⟨by omega,by omega⟩ w,fun _ rs g f H2 s2=>q rs g f H2 (s1.trans s2.toN) (se1.trans s2.toE) (Jl bk1 s2)⟩
abbrev Ga (K:PySem.W.Frag) (c:Cs) (Zc:Addr) (Zd Zg:Addr):Str->Sp->Prop:=fun nm sp=>(nm="answer_keep"/\sp=(zn K c))\/(nm="answer_load"/\sp=(zu K c Zc Zd))\/(nm="answer_text"/\sp=(zq K c))\/(nm="answer_pack"/\sp=(zx K c Zg))
def Zwq (kept:YE) (i:Nat) (ws:List (List Nat)) (Qs:YE->List Nat->Prop) (Qr:Nat->Prop):Prop:=
 (ws.getD 0 []=cd "keep"/\i=0/\((ws.getD 2 []).length<=300->Qs (Zcc kept (ws.getD 1 []) (ws.getD 2 [])) (cd "ok"))/\(300<(ws.getD 2 []).length->Qr 2))\/
 (ws.getD 0 []=cd "text"/\∃x,zC kept (ws.getD 1 [])=some x/\Qs kept x)\/
 (ws.getD 0 []=cd "pack"/\∃x,zC kept (ws.getD 1 [])=some x/\x.length<=62/\∀rs,YS rs->flat rs=LO.Z5 x->Qs kept (ZJ (LO.Zdg x:Nat)++32::wr rs))\/
 (ws.getD 0 []=cd "load"/\i=0/\((∀h rs,¬Pk (ws.getD 2 []) h rs)->Qr 0)/\∀h rs,Pk (ws.getD 2 []) h rs->(flat rs).length<=62/\(∀c∈flat rs,c≠10)/\∀m,m<=(flat rs).length->LO.rd (LO.rsL (flat rs) h) m=some h->(m≠(flat rs).length->Qr 3)/\(m=(flat rs).length->Qs (Zcc kept (ws.getD 1 []) (LO.Zde (LO.rsL (flat rs) h) (flat rs).length)) (cd "ok")))
def JR (kept:YE) (r:List Nat) (Qs:YE->List Nat->Prop) (Qr:Nat->Prop):Prop:=
 ((¬ ∃i ws,qO r i ws)->Qr 0)/\∀i ws,qO r i ws->(¬ZgF kept i ws->Qr 1)/\(ZgF kept i ws->Zwq kept i ws Qs Qr)
def Zcf (c:Cs):Nat->Addr
 |0=>c.NoRow
 |1=>c.NoName
 |2=>c.TooLong
 |_=>c.NoText
theorem JR.mono {kept:YE} {r:List Nat} {Qs Qs':YE->List Nat->Prop} {Qr Qr':Nat->Prop} (a:∀k x,Qs k x->Qs' k x) (b:∀k,Qr k->Qr' k) (h:JR kept r Qs Qr):JR kept r Qs' Qr':=by
 refine ⟨fun n=>b _ (h.1 n),fun i ws g=>⟨fun n=>b _ ((h.2 i ws g).1 n),fun n=>?_⟩⟩
 rcases (h.2 i ws g).2 n with ⟨e0,e1,e2,e3⟩|⟨e0,x,e1,e2⟩|⟨e0,x,e1,e2,e3⟩|⟨e0,e1,e2,e3⟩
 ·exact .inl ⟨e0,e1,fun l=>a _ _ (e2 l),fun l=>b _ (e3 l)⟩
 ·exact .inr (.inl ⟨e0,x,e1,a _ _ e2⟩)
 ·exact .inr (.inr (.inl ⟨e0,x,e1,e2,fun rs g f=>a _ _ (e3 rs g f)⟩))
 ·refine .inr (.inr (.inr ⟨e0,e1,fun l=>b _ (e2 l),fun h rs p=>?_⟩))
  obtain ⟨f1,f2,f3⟩:=e3 h rs p
  exact ⟨f1,f2,fun m hm em=>⟨fun l=>b _ ((f3 m hm em).1 l),fun l=>a _ _ ((f3 m hm em).2 l)⟩⟩
def qk (K:PySem.W.Frag) (C:Addr):Sp:=fun vs H Q _=>match vs with
 |[.ref o]=>(∃dx,H o=some (.ins C dx []))/\∀H' t,(∀b u,b≠o->H b=some u->H' b=some u)->H t=none->Y8 C H' o t []->Q .non H'
 |_=>False
theorem Ze0 {f:Addr} {fd:FuncData} (F:Fun K "__init__" "Desk.__init__" YY f fd) (B:Bn mg) {c:Cs} (ER:Er K mg c) {Zp Zh Zi:Addr} (TP:Tp K w.params mg Zp Zh Zi) {Zc Zm:Addr} (CF:Cf K Zc Zm) (GC:Gc mg):Z4 P w K mg base CX0 1 f fd qE (qk K Zm):=by
 refine F.ok ZeQ (fun vs H Q E h=>?_) (fun cdv A outer s H vs Q E hr h=>?_)<;>unfold qk at h<;>split at h<;>first|exact h.elim|skip
 ·rfl
 ·rename_i o
  obtain ⟨⟨dx,ho⟩,q⟩:=h
  refine ⟨_,(Zo (Zb3 (K:=K) rfl CF.cl_Desk CF.na_Desk_texts (qv 0) Zh1 rfl)),?_⟩
  simp only [L2.ZR,map_cons,map_nil,length_cons,length_nil,replicate_zero,Nat.reduceAdd,Nat.reduceSub,gS,ZE,ZiS,Zn6,append_nil]
  refine fun p hp=>⟨dx,_,(Zn (Zq ho hp)).trans ho,by decide,q _ p (fun b u hb h=>?_) hp ⟨⟨dx,Zj⟩,(Zn fun z=>?_).trans Zj⟩⟩
  ·rw [Zn hb,Zn (Zq h hp)]
   exact h
  ·rw [z,ho] at hp
   cases hp
def qJ (K:PySem.W.Frag) (c:Cs) (CL C:Addr) (tb1 tb2:Addr):Sp:=fun vs H Q E=>match vs with
 |[.ref o,.str z]=>∃t kept,Y8 C H o t kept/\kept.length<=1000/\(L z).length<=5000/\Zr tb1 H/\ZT tb2 H/\tb1≠tb2/\JR kept (L z) (fun kept' x=>∀H',SD tb1 tb2 (upd H t (.dK (txK kept'))) H'->Q (.str (T x)) H') (fun k=>∀H',SD tb1 tb2 H H'->E (.ref (Zcf c k)) none H')
 |_=>False
theorem ZfC {f:Addr} {fd:FuncData} (F:Fun K "say" "Desk.say" qt f fd) (B:Bn mg) {Zd Zg:Addr} {c:Cs} (ER:Er K mg c) {Zp Zh Zi:Addr} (TP:Tp K w.params mg Zp Zh Zi) {Zc Zm:Addr} (CF:Cf K Zc Zm) (GC:Gc mg) (Zbi:FnX P w K mg base 2 "read_row" Jm (qA K c)) (J2:FnX P w K mg base 2 "check_names" YU (Yy K c)) (J1:FnX P w K mg base 2 "answer_keep" YK (zn K c)) (J4:FnX P w K mg base 7 "answer_load" YV (zu K c Zc Zd)) (J7:FnX P w K mg base 1 "answer_text" YM (zq K c)) (J0:FnX P w K mg base 5 "answer_pack" YR (zx K c Zg)):Z4 P w K mg base (CX1 P w) 8 f fd Jh (qJ K c Zc Zm Zd Zg):=by
 refine F.okX Zcl (fun vs H Q E h=>?_) (fun cdv A outer s H vs Q E hr h=>?_)<;>unfold qJ at h<;>split at h<;>first|exact h.elim|skip
 ·rfl
 ·rename_i o z
  obtain ⟨t,kept,⟨⟨dx,ho⟩,ht⟩,hk,hz,b1,b2,ne,q0,q⟩:=h
  refine ⟨_,(Ze (Zu (i:=2) Zcl.nd rfl (by first|exact Or.inl rfl|exact Or.inr rfl) (qh Z0.toTk Zbi (hr.mono (by decide)) (Zb (qv 1) Zf)))
   (Ze (qM (qh Z0.toTk J2 (hr.mono (by decide)) (Zb (ZaH (K:=K) rfl CF.cl_Desk CF.na_Desk_texts (qv 0)) (Zb (qv 2) Zf))))
   (Zo (ZI (Zp0 (k:=7) (G:=Ga K c Zc Zd Zg) Z0.toTk TP.d_ANSWERS TP.m_ANSWERS (fun nm sp h=>by rcases h with ⟨rfl,rfl⟩|⟨rfl,rfl⟩|⟨rfl,rfl⟩|⟨rfl,rfl⟩<;>first|exact ⟨_,_,by decide,J1⟩|exact ⟨_,_,by decide,J4⟩|exact ⟨_,_,by decide,J7⟩|exact ⟨_,_,by decide,J0⟩) (hr.mono (by decide)) (Yr (Y7 hr) (qv 2) Zs (fun _ _=>rfl)) (Zb (ZaH (K:=K) rfl CF.cl_Desk CF.na_Desk_texts (qv 0)) (Zb (qv 2) Zf)) (fun _ _=>rfl)))))),?_⟩
  simp only [L2.ZR,map_cons,map_nil,length_cons,length_nil,replicate_succ,replicate_zero,cons_append,nil_append,Nat.reduceAdd,Nat.reduceSub,set_cons_zero,set_cons_succ,gS,ZE,tC,zG,Z3,Zz,zP,ZaM,Zx,ZL,Zcd,Zbr,ZzM,Znf,qA]
  refine ⟨hz,fun i ws g H1 d s1 hd0 hd=>?_,fun n H' s'=>q0 n H' (SD.of s' b1 b2)⟩
  have hi:=ZlV g.1
  have hw:∀k,(ws.getD k []).length<=5000:=fun k=>by
   rw [g.2.1]
   exact Nat.le_trans (ZjD i (L z) k) hz
  refine ⟨dx,_,.ref t,s1 o _ ho,rfl,?_⟩
  simp only [Yy]
  refine ⟨kept,i,ws,s1 t _ ht,hi,hd,hw,fun n H2 s2=>?_,fun n H2 s2=>(q i ws g).1 n H2 (SD.of (s1.trans s2) b1 b2)⟩
  have s3:=s1.trans s2
  have hd2:=s2 d _ hd
  have b13:=Jl b1 s3
  have b23:=Jl b2 s3
  have ht3:=s3 t _ ht
  refine ⟨d,_,rfl,Zg3 i ws▸DGet.kys hd2 "word",?_⟩
  rcases (q i ws g).2 n with ⟨e0,rfl,a1,a2⟩|⟨e0,x,hx,a⟩|⟨e0,x,hx,xl,a⟩|⟨e0,rfl,a1,a2⟩
  ·rw [e0]
   refine ⟨"answer_keep",zn K c,by rw [Zfa];rfl,.inl ⟨rfl,rfl⟩,dx,_,.ref t,s3 o _ ho,rfl,?_⟩
   simp only [zn]
   exact ⟨kept,ws,ht3,hk,hd2,hw 2,fun l=>a1 l _ ((SD.of s3 b1 b2).dk ht),fun l=>a2 l H2 (SD.of s3 b1 b2)⟩
  ·rw [e0]
   refine ⟨"answer_text",zq K c,by rw [Zfa];rfl,.inr (.inr (.inl ⟨rfl,rfl⟩)),dx,_,.ref t,s3 o _ ho,rfl,?_⟩
   simp only [zq]
   refine ⟨kept,i,ws,x,ht3,hd2,hx,a H2 ?_⟩
   rw [ZcH ht]
   exact SD.of s3 b1 b2
  ·rw [e0]
   refine ⟨"answer_pack",zx K c Zg,by rw [Zfa];rfl,.inr (.inr (.inr ⟨rfl,rfl⟩)),dx,_,.ref t,s3 o _ ho,rfl,?_⟩
   simp only [zx]
   refine ⟨kept,i,ws,x,ht3,hd2,hx,xl,b23,fun rs gr fr H4 s4 se4 b4=>a rs gr fr H4 ?_⟩
   rw [ZcH ht]
   exact (SD.of s3 b1 b2).trans (SD.ofO s4 se4 b23 b4 b13 ne)
  ·rw [e0]
   refine ⟨"answer_load",zu K c Zc Zd,by rw [Zfa];rfl,.inr (.inl ⟨rfl,rfl⟩),dx,_,.ref t,s3 o _ ho,rfl,?_⟩
   simp only [zu]
   refine ⟨kept,ws,ht3,hk,hd2,hw 2,b13,fun n H4 s4=>a1 n H4 (SD.of (s3.trans s4) b1 b2),fun h rs pk=>?_⟩
   obtain ⟨f1,f2,f3⟩:=a2 h rs pk
   refine ⟨f1,f2,fun m hm em H4 s4 se4 b4=>?_⟩
   have sd:SD Zd Zg H H4:=(SD.of s3 b1 b2).trans (SD.ofL s4 se4 b13 b4 b23 ne)
   exact ⟨fun l=>(f3 m hm em).1 l H4 sd,fun l=>(f3 m hm em).2 l _ (sd.dk ht)⟩
def Ym (K:PySem.W.Frag):Sp:=fun vs H Q _=>match vs with
 |[.ref a,.int k]=>∃ns:List Int,SqL K H a (ns.map V.int)/\0<=k/\Q (.int (Zoo ns k)) H
 |_=>False
theorem ZgY {f:Addr} {fd:FuncData} (F:Fun K "_law_cell_at" "_law_cell_at" qZ f fd) (B:Bn mg) {c:Cs} (ER:Er K mg c) {Zp Zh Zi:Addr} (TP:Tp K w.params mg Zp Zh Zi) {Zc Zm:Addr} (CF:Cf K Zc Zm) (GC:Gc mg):Z4 P w K mg base CX0 1 f fd JW (Ym K):=by
 refine F.pure Zf8 (fun vs H Q E h=>?_) (fun cdv A outer s H vs Q E hr h=>?_)<;>unfold Ym at h<;>split at h<;>first|exact h.elim|skip
 ·rfl
 ·rename_i a k
  obtain ⟨ns,hS,hk,q⟩:=h
  refine ⟨_,(Ze (zd (Z7 Zfw (qv 1) (ZH (zr (K:=K) rfl) (by rfl) B.len zo (Zb (qv 0) Zf))) (Zo (ZI (ZX (Z1 (K:=K) rfl) (qv 0) (qv 1) (fun _ _=>rfl)))) ZM)
   (Zo (ZI Zl))),?_⟩
  simp only [L2.ZR,map_cons,map_nil,length_cons,length_nil,replicate_zero,cons_append,nil_append,Nat.reduceAdd,Nat.reduceSub,decide_eq_true_eq,gS,ZE,tC,zG,zf,zP,YH,tOp,tCB,Zx,ZL,tB2,ltV,ixV,Jz]
  refine ⟨_,.inl hS,?_⟩
  unfold Zoo at q
  rw [length_map]
  refine z7 (fun h1=>?_) (fun h1=>?_)
  ·rw [if_pos h1] at q
   exact ⟨_,_,.inl hS,zJ (.int 0) hk (by simpa using h1),Zw.refl _,by rw [Zhd];exact q⟩
  ·rw [if_neg h1] at q
   exact ⟨Zw.refl _,q⟩
def YF (K:PySem.W.Frag):Sp:=fun vs H Q _=>match vs with
 |[.int _,.int m]=>0<=m/\m<=1000/\∀p (ns:List Int),H p=none->ns.length=m.toNat->∀H',Zw H H'->H' p=some (.lst (ns.map V.int))->Q (.ref p) H'
 |_=>False
theorem Zg9 {f:Addr} {fd:FuncData} (F:Fun K "_law_stream" "_law_stream" JD f fd) (B:Bn mg) {c:Cs} (ER:Er K mg c) {Zp Zh Zi:Addr} (TP:Tp K w.params mg Zp Zh Zi) {Zc Zm:Addr} (CF:Cf K Zc Zm) (GC:Gc mg):Z4 P w K mg base CX0 1 f fd JC (YF K):=by
 refine F.ok JU (fun vs H Q E h=>?_) (fun cdv A outer s H vs Q E hr h=>?_)<;>unfold YF at h<;>split at h<;>first|exact h.elim|skip
 ·rfl
 ·rename_i x m
  obtain ⟨h0,h1,q⟩:=h
  refine ⟨_,(Ze (Zu (i:=2) JU.nd rfl (by first|exact Or.inl rfl|exact Or.inr rfl) (Zv ZN Zl (Zv YQ (qv 0) Zl)))
   (Ze (Zu (i:=3) JU.nd rfl (by first|exact Or.inl rfl|exact Or.inr rfl) (ZcC Zf))
   (Ze (Zeb PassesOwn.never rfl B.range (Zb (Zv ZN (qv 1) Zl) Zf) (zb (i:=4) JU.nd rfl (by first|exact Or.inl rfl|exact Or.inr rfl)) (Ze (Zu (i:=2) JU.nd rfl (by first|exact Or.inl rfl|exact Or.inr rfl) (Zv YQ (Zv ZfR (qv 2) Zl) Zl))
   (Zo (qM (zH (K:=K) rfl PySem.F.plainAttrs_list PySem.F.slot_list_append PySem.F.type_list_append Zaj (qv 3) (Zb (Zv ZmS (qv 2) Zl) Zf))))))
   (Zo (ZI (qj (ZbK (K:=K) rfl) (qv 3) (ZcZ Zl) Zaw)))))),?_⟩
  simp only [L2.ZR,map_cons,map_nil,length_cons,length_nil,replicate_succ,replicate_zero,cons_append,nil_append,Nat.reduceAdd,Nat.reduceSub,Int.reduceLT,true_and,set_cons_zero,set_cons_succ,gS,ZE,tC,zG,Z3,Zz,tOp,Zx,ZL,Zh3,Y5,JZ,Zgz,ZoD]
  have hsz:sizeLine=16777216:=sizeLine_eq
  refine ⟨by omega,fun p hp=>⟨⟨by omega,by omega⟩,?_⟩⟩
  refine ⟨fun i σ H'=>∃v w,∃ns:List Int,σ=[some (V.int x),some (V.int m),some (V.int v),some (V.ref p),w]/\H'=upd H p (.lst (ns.map V.int))/\ns.length=i,⟨_,_,[],rfl,rfl,rfl⟩,?_,?_⟩
  ·rintro i σ H' hi ⟨v,w,ns,rfl,rfl,hn⟩
   simp only [Int.reduceLT,true_and,String.reduceEq,set_cons_zero,set_cons_succ,gS,ZE,tC,zG,Z3,Zz,ZaM,tOp,Zx,ZL,Zig,JZ,tBM,tyV,ZaK]
   refine ⟨.inr ⟨by decide,by decide⟩,.inl ⟨_,SqL.of Zj⟩,⟨by decide,by decide⟩,p,_,_,rfl,rfl,Zj,by rw [length_map];omega,_,_,ns++[v * 48271%2147483647/16],rfl,?_,by simp [hn]⟩
   rw [Zbj,map_append]
   rfl
  ·rintro σ H' ⟨v,w,ns,rfl,rfl,hn⟩
   simp only [gS,ZE,tC,zP,tSl,ZaN,pT,slV]
   refine ⟨_,SqL.of Zj,fun l hl=>?_⟩
   refine q l (cut ns (some 2) none) (Zdf hl).1 ?_ _ (Zw.upd (Zw.updN hp) hl) (by rw [Zj,Zge])
   rw [show (2:Int)=((2:Nat):Int) from rfl,ZbX,length_drop]
   omega
def Za2 (K:PySem.W.Frag):Sp:=fun vs H Q _=>match vs with
 |[.int _]=>∀c∈Zcp,Q (.str (T [c])) H
 |_=>False
theorem ZkM {f:Addr} {fd:FuncData} (F:Fun K "_law_sign" "_law_sign" ZaY f fd) (B:Bn mg) {c:Cs} (ER:Er K mg c) {Zp Zh Zi:Addr} (TP:Tp K w.params mg Zp Zh Zi) {Zc Zm:Addr} (CF:Cf K Zc Zm) (GC:Gc mg):Z4 P w K mg base CX0 1 f fd ZbG (Za2 K):=by
 refine F.pure Zdz (fun vs H Q E h=>?_) (fun cdv A outer s H vs Q E hr h=>?_)<;>unfold Za2 at h<;>split at h<;>first|exact h.elim|skip
 ·rfl
 ·rename_i n
  refine ⟨_,(Ze (Zu (i:=1) Zdz.nd rfl (by first|exact Or.inl rfl|exact Or.inr rfl) Zs)
   (Ze (Zu (i:=1) Zdz.nd rfl (by first|exact Or.inl rfl|exact Or.inr rfl) (Zv ZN (qv 1) Zs))
   (Zo (ZI (ZX (Z1 (K:=K) rfl) (qv 1) (Zv YQ (qv 0) Zl) (fun _ _=>rfl)))))),?_⟩
  simp only [L2.ZR,map_cons,map_nil,length_cons,length_nil,replicate_succ,replicate_zero,cons_append,nil_append,Nat.reduceAdd,Nat.reduceSub,Int.reduceLT,true_and,set_cons_zero,set_cons_succ,gS,ZE,tC,zG,Z3,Zz,zP,tOp,Y5,JZ,ixV,L_T]
  have e:L (Str.ofString " !\"#$&'()*+,-./0123456789:;<=>?@ABCDEFGHIJKLMNOPQRSTUVWXYZ[\\]^_`")++L (Str.ofString "abcdefghijklmnopqrstuvwxyz{|}~")=Zcp:=by decide +kernel
  have n0:0<=n%94:=Int.emod_nonneg _ (by decide)
  have n1:n%94<94:=Int.emod_lt_of_pos _ (by decide)
  rw [e]
  exact ⟨by decide +kernel,by decide +kernel,_,zJ 0 n0 (by rw [ZfG];exact n1),Zw.refl _,h _ (Zoi (by omega))⟩
def qw (K:PySem.W.Frag):Sp:=fun vs H Q _=>match vs with
 |[.ref a,.int at_,.int _]=>∃ns:List Int,SqL K H a (ns.map V.int)/\ns.length<=63/\0<=at_/\at_<=1000/\∀l:List Nat,l.length<=60->(∀c∈l,c∈Zcp)->∀H',Zw H H'->Q (.str (T l)) H'
 |_=>False
theorem Zgm {f:Addr} {fd:FuncData} (F:Fun K "_law_text_by" "_law_text_by" qX f fd) (B:Bn mg) {c:Cs} (ER:Er K mg c) {Zp Zh Zi:Addr} (TP:Tp K w.params mg Zp Zh Zi) {Zc Zm:Addr} (CF:Cf K Zc Zm) (GC:Gc mg) (qR:Fn P w K mg base 1 "_law_stream" JC (YF K)) (ZeL:Fn P w K mg base 1 "_law_sign" ZbG (Za2 K)):Z4 P w K mg base CX0 2 f fd JV (qw K):=by
 refine F.ok zg (fun vs H Q E h=>?_) (fun cdv A outer s H vs Q E hr h=>?_)<;>unfold qw at h<;>split at h<;>first|exact h.elim|skip
 ·rfl
 ·rename_i a at_ cell
  obtain ⟨ns,hS,hl,h0,h1,q⟩:=h
  refine ⟨_,(Ze (Zu (i:=3) zg.nd rfl (by first|exact Or.inl rfl|exact Or.inr rfl) (zk qR (hr.mono (by decide)) (Zb (qv 2) (Zb Zl Zf))))
   (Ze (Zu (i:=4) zg.nd rfl (by first|exact Or.inl rfl|exact Or.inr rfl) (Zv YQ (ZX (Z1 (K:=K) rfl) (qv 3) Zl (fun _ _=>rfl)) Zl))
   (Ze (ZK (zd (Z7 Zc7 (Zv YQ (ZX (Z1 (K:=K) rfl) (qv 3) Zl (fun _ _=>rfl)) Zl) Zl) (Zo (Zu (i:=4) zg.nd rfl (by first|exact Or.inl rfl|exact Or.inr rfl) (Zv YQ (ZX (Z1 (K:=K) rfl) (qv 3) Zl (fun _ _=>rfl)) Zl))) ZM))
   (Ze (Zu (i:=5) zg.nd rfl (by first|exact Or.inl rfl|exact Or.inr rfl) (Zv YQ (ZX (Z1 (K:=K) rfl) (qv 3) Zl (fun _ _=>rfl)) Zl))
   (Ze (Zu (i:=6) zg.nd rfl (by first|exact Or.inl rfl|exact Or.inr rfl) (Zv ZN (qj (ZbK (K:=K) rfl) (qv 0) (ZcZ (qv 1)) (ZcZ (Zv ZN (qv 1) (qv 4)))) (zk qR (hr.mono (by decide)) (Zb (Zv ZN (qv 2) Zl) (Zb (qv 4) Zf)))))
   (Ze (Zu (i:=7) zg.nd rfl (by first|exact Or.inl rfl|exact Or.inr rfl) (ZcC Zf))
   (Ze (Zeb PassesOwn.never rfl B.range (Zb (qv 4) Zf) (zb (i:=8) zg.nd rfl (by first|exact Or.inl rfl|exact Or.inr rfl)) (Ze (Zu (i:=9) zg.nd rfl (by first|exact Or.inl rfl|exact Or.inr rfl) (ZX (Z1 (K:=K) rfl) (qv 6) (qv 8) (fun _ _=>rfl)))
   (Ze (ZK (zd (Z7 Zc7 (qv 5) Zl) (Zo (Zu (i:=9) zg.nd rfl (by first|exact Or.inl rfl|exact Or.inr rfl) (ZX (Z1 (K:=K) rfl) (qv 6) (Zv YQ (qv 8) (Zv ZN Zl (Zv YQ (ZX (Z1 (K:=K) rfl) (qv 3) Zl (fun _ _=>rfl)) Zl))) (fun _ _=>rfl)))) ZM))
   (Ze (ZK (zd (Z7 Zfw (qv 5) Zl) (Zo (Zu (i:=9) zg.nd rfl (by first|exact Or.inl rfl|exact Or.inr rfl) (Zv ZN (ZX (Z1 (K:=K) rfl) (qv 3) Zl (fun _ _=>rfl)) (Zv ZfR (Zv YQ (qv 9) (Zv ZN Zl (Zv YQ (qv 5) Zl))) (Zv ZN Zl (Zv YQ (ZX (Z1 (K:=K) rfl) (qv 3) Zl (fun _ _=>rfl)) Zl)))))) ZM))
   (Zo (qM (zH (K:=K) rfl PySem.F.plainAttrs_list PySem.F.slot_list_append PySem.F.type_list_append Zaj (qv 7) (Zb (zk ZeL (hr.mono (by decide)) (Zb (qv 9) Zf)) Zf))))))))
   (Zo (ZI (zH (K:=K) rfl PySem.F.plainAttrs_str PySem.F.slot_str_join PySem.F.type_str_join (Zb1 (K:=K) rfl) Zs (Zb (qv 7) Zf))))))))))),?_⟩
  simp only [L2.ZR,map_cons,map_nil,length_cons,length_nil,replicate_succ,replicate_zero,cons_append,nil_append,Nat.reduceAdd,Nat.reduceSub,Int.reduceLE,true_and,set_cons_zero,set_cons_succ,gS,ZE,tC,zG,Z3,Zz,tOp,Zx,ZL,tFn,ixV,YF]
  have hsz:sizeLine=16777216:=sizeLine_eq
  intro p1 ss hp1 hss H1 sm1 hs1
  have a0:∀i:Int,0<=i->i<8->atI (ss.map V.int) i=some (V.int (ss.getD i.toNat 0)):=fun i h2 h3=>ZgS h2 (by rw [hss];exact h3)
  have SS:=SqL.of (K:=K) hs1
  refine ⟨_,_,.inl SS,a0 0 (by decide) (by decide),?_⟩
  simp only [Int.reduceLT,true_and,JZ]
  refine zI (fun σ' H'=>H'=H1/\∃sz:Int,0<=sz/\sz<=60/\σ'=[some (V.ref a),some (V.int at_),some (V.int cell),some (V.ref p1),some (V.int sz),none,none,none,none,none]) ?_ ?_
  ·simp only [set_cons_zero,set_cons_succ,gS,ZE,tC,zf,Z3,Zz,YH,tOp,tB2,eqR,sc,ixV]
   refine ⟨_,_,.inl SS,a0 1 (by decide) (by decide),?_⟩
   simp only [Int.reduceLT,true_and,decide_eq_true_eq,JZ]
   refine z7 (fun _=>⟨_,_,.inl SS,a0 0 (by decide) (by decide),?_⟩) fun _=>⟨_,Int.emod_nonneg _ (by decide),?_,rfl⟩
   ·simp only [Int.reduceLT,true_and,JZ]
    refine ⟨_,Int.emod_nonneg _ (by decide),?_,rfl⟩
    have:=Int.emod_lt_of_pos (ss.getD (Int.toNat 0) 0) (b:=61) (by decide)
    omega
   ·have:=Int.emod_lt_of_pos (ss.getD (Int.toNat 0) 0) (b:=25) (by decide)
    omega
  rintro σ' H' ⟨rfl,sz,z0,z1,rfl⟩
  simp only [length_nil,set_cons_zero,set_cons_succ,gS,ZE,tC,zG,Z3,Zz,tOp,Zx,ZL,Zh3,tFn,tSl,pT,Y5,ixV,slV,Zgz]
  refine ⟨_,_,.inl SS,a0 2 (by decide) (by decide),?_⟩
  simp only [Int.reduceLT,true_and,JZ,YF]
  have k0:0<=ss.getD (Int.toNat 2) 0%5:=Int.emod_nonneg _ (by decide)
  refine ⟨_,sm1.seq hS,fun q1 hq1=>⟨z0,by omega,fun p2 ms hp2 hms H2 sm2 h2=>?_⟩⟩
  have cl:=ZgJ ns (some at_) (some (at_+sz))
  refine ⟨q1,p2,_,_,rfl,rfl,sm2 _ _ Zj,h2,by rw [Zge,length_map,length_map];omega,fun p3 hp3=>⟨by omega,fun p4 hp4=>?_⟩⟩
  have e3:cut (ns.map V.int) (some at_) (some (at_+sz))++ms.map V.int=(cut ns (some at_) (some (at_+sz))++ms).map V.int:=by rw [Zge,map_append]
  rw [e3] at hp4 ⊢
  have nlen:sz<=((cut ns (some at_) (some (at_+sz))++ms).length:Int):=by rw [length_append];omega
  generalize cut ns (some at_) (some (at_+sz))++ms=nn at hp4 nlen ⊢
  have s2:Zw H' H2:=fun b o hb=>sm2 b o (Zw.updN hq1 b o hb)
  have f3:Zw H2 (upd H2 p3 (HO.lst (nn.map V.int))):=Zw.updN hp3
  have g1:=f3 _ _ (s2 _ _ hs1)
  have g3:upd H2 p3 (HO.lst (nn.map V.int)) p3=some (HO.lst (nn.map V.int)):=Zj
  have sm3:Zw H (upd H2 p3 (HO.lst (nn.map V.int))):=(sm1.trans s2).trans f3
  generalize upd H2 p3 (HO.lst (nn.map V.int))=H3 at hp4 g1 g3 sm3 ⊢
  have n31:=Zq g3 hp4
  have n11:=Zq g1 hp4
  simp only [gS,ZE,Zx,ZL,ZoD]
  refine ⟨⟨by omega,by omega⟩,fun i σ H'=>∃v w,∃cs:List Nat,σ=[some (V.ref a),some (V.int at_),some (V.int cell),some (V.ref p1),some (V.int sz),some (V.int (ss.getD (Int.toNat 2) 0%5)),some (V.ref p3),some (V.ref p4),v,w]/\H'=upd H3 p4 (.lst (cs.map fun c=>V.str (T [c])))/\cs.length=i/\∀c∈cs,c∈Zcp,⟨_,_,[],rfl,rfl,rfl,by simp⟩,?_,?_⟩
  ·rintro i σ H' hi ⟨v,w,cs,rfl,rfl,hcs,hsg⟩
   have G1:upd H3 p4 (HO.lst (cs.map fun c=>V.str (T [c]))) p1=_:=(Zn n11).trans g1
   have G3:upd H3 p4 (HO.lst (cs.map fun c=>V.str (T [c]))) p3=_:=(Zn n31).trans g3
   have G4:upd H3 p4 (HO.lst (cs.map fun c=>V.str (T [c]))) p4=_:=Zj
   generalize hH4:upd H3 p4 (HO.lst (cs.map fun c=>V.str (T [c])))=H4 at G1 G3 G4 ⊢
   simp only [set_cons_zero,set_cons_succ,gS,ZE,zG,Z3,Zz,tOp,ixV]
   refine ⟨_,_,.inl (SqL.of G3),ZgS (by omega) (by omega),?_⟩
   refine zI (fun σ' H'=>H'=H4/\∃n:Int,σ'=[some (V.ref a),some (V.int at_),some (V.int cell),some (V.ref p1),some (V.int sz),some (V.int (ss.getD (Int.toNat 2) 0%5)),some (V.ref p3),some (V.ref p4),some (V.int (0+(i:Int))),some (V.int n)]) ?_ ?_
   ·simp only [true_and,decide_eq_true_eq,set_cons_zero,set_cons_succ,gS,ZE,tC,zf,Z3,Zz,YH,tOp,tB2,Y5,JZ,eqR,sc,ixV,Zgz]
    refine z7 (fun _=>⟨_,_,.inl (SqL.of G1),a0 4 (by decide) (by decide),?_⟩) fun _=>⟨_,rfl⟩
    simp only [Int.reduceLT,true_and,JZ]
    have r0:0<=ss.getD (Int.toNat 4) 0%5:=Int.emod_nonneg _ (by decide)
    have q0:0<=(0+(i:Int))%(1+ss.getD (Int.toNat 4) 0%5):=Int.emod_nonneg _ (by omega)
    have q1':(0+(i:Int))%(1+ss.getD (Int.toNat 4) 0%5)<=0+(i:Int):=Zun (by omega) (by omega)
    exact ⟨by omega,_,_,.inl (SqL.of G3),ZgS q0 (by omega),_,rfl⟩
   rintro σ' H' ⟨rfl,n,rfl⟩
   simp only [zG]
   refine zI (fun σ' H''=>H''=H'/\∃n:Int,σ'=[some (V.ref a),some (V.int at_),some (V.int cell),some (V.ref p1),some (V.int sz),some (V.int (ss.getD (Int.toNat 2) 0%5)),some (V.ref p3),some (V.ref p4),some (V.int (0+(i:Int))),some (V.int n)]) ?_ ?_
   ·simp only [Int.reduceLT,true_and,decide_eq_true_eq,set_cons_zero,set_cons_succ,gS,ZE,tC,zf,Z3,Zz,YH,tOp,tB2,Y5,Zig,JZ,ltV,ixV,Zgz,ZmH]
    refine z7 (fun _=>⟨_,_,.inl (SqL.of G1),a0 3 (by decide) (by decide),?_⟩) fun _=>⟨_,rfl⟩
    simp only [L2.ZR]
    have r0:0<=ss.getD (Int.toNat 2) 0%5%2:=Int.emod_nonneg _ (by decide)
    have r1:ss.getD (Int.toNat 2) 0%5%2<2:=Int.emod_lt_of_pos _ (by decide)
    have r2:0<=n%(2+ss.getD (Int.toNat 2) 0%5%2):=Int.emod_nonneg _ (by omega)
    have r3:n%(2+ss.getD (Int.toNat 2) 0%5%2)<2+ss.getD (Int.toNat 2) 0%5%2:=Int.emod_lt_of_pos _ (by omega)
    refine ⟨by omega,_,_,.inl (SqL.of G1),a0 5 (by decide) (by decide),?_⟩
    simp only [Int.reduceLT,true_and,JZ]
    exact ⟨.inl ⟨by omega,by omega⟩,_,rfl⟩
   rintro σ' H'' ⟨rfl,n2,rfl⟩
   simp only [true_and,String.reduceEq,gS,ZE,ZaM,Zx,ZL,tFn,tBM,tyV,ZaK,Za2]
   refine ⟨.inl ⟨_,SqL.of G4⟩,fun c hc=>⟨p4,_,_,rfl,rfl,G4,by rw [length_map];omega,_,_,cs++[c],rfl,?_,by simp [hcs],fun x hx=>?_⟩⟩
   ·rw [<-hH4,Zbj,map_append]
    rfl
   ·rcases mem_append.mp hx with hx|hx
    ·exact hsg x hx
    ·have:x=c:=by simpa using hx
     rw [this]
     exact hc
  ·rintro σ H' ⟨v,w,cs,rfl,rfl,hcs,hsg⟩
   simp only [true_and,gS,ZE,tC,zP,Zx,ZL,ZcV,tBM,tyV]
   rw [ZcU]
   refine ⟨cs.map fun c=>[c],SqL.of (by rw [Zj,map_map];rfl),?_,?_⟩
   ·rw [ZpV (fun c:Nat=>c),length_map,length_nil]
    omega
   ·rw [qy,Zkl (fun c:Nat=>c),List.map_id']
    exact q cs (by omega) hsg _ (Zw.upd sm3 hp4)
def Zar (K:PySem.W.Frag) (tb:Addr):Sp:=fun vs H Q _=>match vs with
 |[.str z]=>(L z).length<=62/\qT tb H/\∀p H',ZS H H'->Yq tb H H'->qT tb H'->H p=none->H' p=some (.lst ((LO.ord (L z)).map fun i:Nat=>V.int i))->Q (.ref p) H'
 |_=>False
theorem Zio {f:Addr} {fd:FuncData} (F:Fun K "_law_order" "_law_order" Zak f fd) (B:Bn mg) {Zt:Addr} {cd:Addr} (LM_w_order:Lm mg base cd Zt) (hcd:fd.code=.ref cd) {c:Cs} (ER:Er K mg c) {Zp Zh Zi:Addr} (TP:Tp K w.params mg Zp Zh Zi) {Zc Zm:Addr} (CF:Cf K Zc Zm) (GC:Gc mg):Z4 P w K mg base CX0 3 f fd ZaW (Zar K Zt):=by
 refine F.okL hcd ZiB (fun vs H Q E h=>?_) (fun A outer s H vs Q E hr h=>?_)<;>unfold Zar at h<;>split at h<;>first|exact h.elim|skip
 ·rfl
 ·rename_i z
  obtain ⟨hl,bk,q⟩:=h
  refine ⟨_,(Zo (ZI (ZeU (K:=K) (x:="_law_place") (cp:=[(("_law_text":Str),0)]) (q:=Zey) rfl rfl (hr.mono (by decide)) (LM_w_order.at rfl) rfl B.sorted rfl rfl rfl rfl (by decide +kernel) ⟨⟨rfl,rfl,rfl⟩,trivial⟩ rfl (by decide +kernel) rfl rfl (fun _ _ _ _=>rfl) (Zb (zF (Zlz (K:=K) rfl rfl) (by rfl) B.list Zqv (Zb (zF ZgR (by rfl) B.range ZeE (Zb (Zv ZN (ZH (zr (K:=K) rfl) (by rfl) B.len zo (Zb (qv 0) Zf)) Zl) Zf)) Zf)) Zf) (fun _ _ _ _ _ _=>(qj (ZbK (K:=K) rfl) (qv 1) (ZcZ (qv 0)) Zaw))))),?_⟩
  simp only [L2.ZR,map_cons,map_nil,length_cons,length_nil,replicate_zero,cons_append,nil_append,Nat.reduceAdd,Nat.reduceSub,true_and,gS,ZE,tC,zP,tOp,tCB,Zx,ZL,tSl,ZaN,pT,Y5,slV,Jz,Zjf,Zgy,Zfy,Znl]
  have hsz:sizeLine=16777216:=sizeLine_eq
  have er:Za8 0 (((L z).length:Int)+1)=(List.range ((L z).length+1)).map fun j:Nat=>V.int j:=Zj4 _
  have el:(Za8 0 (((L z).length:Int)+1)).length=(L z).length+1:=by rw [er];simp
  refine ⟨by omega,fun r hr0=>⟨_,.inr (.inr ⟨0,_,Zj,rfl,by omega,by omega,by omega,by omega⟩),by omega,fun l hl1=>?_⟩⟩
  refine ⟨_,(List.range ((L z).length+1)).map (fun j=>(L z).drop j),.inl (SqL.of Zj),by omega,by rw [el];simp,(bk.put hr0).put hl1,fun H2 i y sm hy=>?_,fun H2 l1 p sm se bk2 hl2 pm pw=>?_⟩
  ·have hi:=(List.getElem?_eq_some_iff.mp hy).1
   rw [el] at hi
   rw [er,List.getElem?_map,List.getElem?_range hi] at hy
   cases Option.some.inj hy
   refine ⟨by omega,?_⟩
   rw [qc _ _ hi,ZbX]
  ·rw [el] at pm
   have plt:∀j∈p,j<(L z).length+1:=fun j hj=>List.mem_range.mp (pm.mem_iff.mp hj)
   have ep:p=LO.ord (L z):=by
    refine LO.ZhN pm (pw.imp_of_mem fun {i j} hi hj h=>?_)
    have h:=h.1
    rw [qc _ _ (plt i hi),qc _ _ (plt j hj)] at h
    exact h
   have sm0:Zw H (upd (upd H r (HO.rng 0 (((L z).length:Int)+1))) l (HO.lst (Za8 0 (((L z).length:Int)+1)))):=Zw.upd (Zw.updN hr0) hl1
   have sm1:=(Zw.toN sm0).trans sm
   refine q l1 _ (sm1.upd hl2) (((Zw.toE sm0).trans se).upd hl2) (bk2.put hl2) (sm1.free hl2) ?_
   rw [Zj]
   congr 2
   rw [<-ep]
   refine map_congr_left fun j hj=>?_
   rw [er,qc _ _ (plt j hj)]
def JB (K:PySem.W.Frag) (tb:Addr):Sp:=fun vs H Q _=>match vs with
 |[.str z]=>(L z).length<=62/\qT tb H/\∀p H',ZS H H'->Yq tb H H'->qT tb H'->H p=none->H' p=some (.tup [.str (T (LO.Z5 (L z))),.int (LO.Zdg (L z))])->Q (.ref p) H'
 |_=>False
theorem ZkG {f:Addr} {fd:FuncData} (F:Fun K "_law_last" "_law_last" ZaU f fd) (B:Bn mg) {Zt:Addr} {c:Cs} (ER:Er K mg c) {Zp Zh Zi:Addr} (TP:Tp K w.params mg Zp Zh Zi) {Zc Zm:Addr} (CF:Cf K Zc Zm) (GC:Gc mg) (Zdm:Fn P w K mg base 3 "_law_order" ZaW (Zar K Zt)):Z4 P w K mg base CX0 4 f fd Zba (JB K Zt):=by
 refine F.ok ZfS (fun vs H Q E h=>?_) (fun cdv A outer s H vs Q E hr h=>?_)<;>unfold JB at h<;>split at h<;>first|exact h.elim|skip
 ·rfl
 ·rename_i z
  obtain ⟨hl,bk,q⟩:=h
  refine ⟨_,(Ze (Zu (i:=1) ZfS.nd rfl (by first|exact Or.inl rfl|exact Or.inr rfl) (zk Zdm (hr.mono (by decide)) (Zb (qv 0) Zf)))
   (Zo (ZI (Yv (Zb (zH (K:=K) rfl PySem.F.plainAttrs_str PySem.F.slot_str_join PySem.F.type_str_join (Zb1 (K:=K) rfl) Zs (Zb (Ze7 (K:=K) rfl (own:=["_law_place"]) (cp:=[(("_law_text":Str),0)]) rfl rfl rfl (by decide +kernel) (by decide +kernel) ⟨⟨rfl,rfl,rfl⟩,trivial⟩ (qv 1) (by decide) (fun _ _ _ _=>zb (i:=0) (show List.Nodup (["_law_place","_law_text"]:List Str) by decide +kernel) rfl (Or.inl rfl) (Or.inr rfl)) (fun _ _ _ _=>Zek (Z7 Zd4 (qv 0) Zl)) (fun _ _ _ _=>(ZX (Z1 (K:=K) rfl) (qv 1) (Zv ZeD (qv 0) Zl) (fun _ _=>rfl)))) Zf)) (Zb (zH (K:=K) rfl PySem.F.plainAttrs_list PySem.F.slot_list_index PySem.F.type_list_index (Zjo (K:=K) rfl) (qv 1) (Zb Zl Zf)) Zf)))))),?_⟩
  simp only [L2.ZR,map_cons,map_nil,length_cons,length_nil,replicate_succ,replicate_zero,cons_append,nil_append,Nat.reduceAdd,Nat.reduceSub,true_and,decide_eq_true_eq,String.reduceEq,set_cons_zero,set_cons_succ,gS,ZE,tC,zG,Z3,Zz,zP,tOp,Zx,ZL,Zbv,tFn,tB2,Jg,ixV,ZcV,tBM,tyV,ZxA,tCL,ZcJ,J6,gtV,ZkF,Zar]
  have hsz:sizeLine=16777216:=sizeLine_eq
  refine ⟨hl,bk,fun p H1 sm1 se1 bk1 hp h1=>?_⟩
  rw [LO.Zp6] at h1
  have ol:=LO.JI (L z)
  refine ⟨_,SqL.of h1,by rw [length_map,length_map];omega,fun i H2 acc=>H2=H1/\acc=(LO.ltk (L z) i).map fun c=>V.str (T [c]),⟨rfl,rfl⟩,?_,?_,?_⟩
  ·rintro i H2 acc _ ⟨rfl,_⟩
   exact SqL.of h1
  ·rintro i y H2 acc hy ⟨rfl,rfl⟩
   rw [<-LO.Zp6,List.getElem?_map] at hy
   obtain ⟨j,ej,rfl⟩:=Option.map_eq_some_iff.mp hy
   have hj:j<=(L z).length:=LO.Zaf.mp (List.mem_of_getElem? ej)
   simp only [true_and]
   refine z7 (fun h0=>⟨by omega,_,zJ 0 (by omega) (by omega),?_⟩) fun h0=>?_
   ·rw [LO.Zhp ej (by omega),map_append,show ((j:Int)-1).toNat=j-1 by omega]
    rfl
   ·have:j=0:=by omega
    subst this
    rw [LO.Zhx ej]
  ·rintro H2 acc ⟨rfl,rfl⟩ l hl2
   rw [length_map,length_map,LO.Zec (L z) (by omega),ZcU]
   have ll:(LO.Z5 (L z)).length<=63:=by
    have:=LO.Zkp (L z) ((L z).length+1)
    rw [LO.Zec (L z) (Nat.le_refl _)] at this
    omega
   refine ⟨(LO.Z5 (L z)).map fun c=>[c],SqL.of (by rw [Zj,map_map];rfl),?_,?_⟩
   ·rw [ZpV (fun c:Nat=>c),length_map,length_nil]
    omega
   ·rw [qy,Zkl (fun c:Nat=>c),List.map_id']
    have h2:upd H2 l (HO.lst ((LO.Z5 (L z)).map fun c=>V.str (T [c]))) p=some (HO.lst (((LO.ord (L z)).map fun i:Nat=>(i:Int)).map V.int)):=by rw [Zn (Zq h1 hl2)];exact h1
    refine ⟨.inl ⟨_,SqL.of h2⟩,p,_,rfl,SqL.of h2,LO.ZeY _,by omega,fun p1 hp1=>?_⟩
    rw [LO.Zhk]
    exact q p1 _ ((sm1.upd hl2).upd hp1) ((se1.upd hl2).upd hp1) ((bk1.put hl2).put hp1) ((sm1.upd hl2).free hp1) Zj
def Za4 (K:PySem.W.Frag):Sp:=fun vs H Q _=>match vs with
 |[.str z,.int h,.int r]=>(L z).length<=62/\(∀c∈L z,c≠10)/\(0<=h/\h<=(L z).length)/\(0<=r/\r<=(L z).length)/\Q (ZqQ (LO.bk (LO.rsL (L z) h.toNat) r.toNat)) H
 |_=>False
theorem ZkL {f:Addr} {fd:FuncData} (F:Fun K "_law_back" "_law_back" Za5 f fd) (B:Bn mg) {c:Cs} (ER:Er K mg c) {Zp Zh Zi:Addr} (TP:Tp K w.params mg Zp Zh Zi) {Zc Zm:Addr} (CF:Cf K Zc Zm) (GC:Gc mg):Z4 P w K mg base CX0 1 f fd ZbV (Za4 K):=by
 refine F.pure Zdn (fun vs H Q E h=>?_) (fun cdv A outer s H vs Q E hr h=>?_)<;>unfold Za4 at h<;>split at h<;>first|exact h.elim|skip
 ·rfl
 ·rename_i z h r
  obtain ⟨hl,h10,hh,hr2,q⟩:=h
  obtain ⟨g,rfl⟩:∃k:Nat,h=(k:Int):=⟨h.toNat,by omega⟩
  obtain ⟨r,rfl⟩:∃k:Nat,r=(k:Int):=⟨r.toNat,by omega⟩
  rw [Int.toNat_natCast,Int.toNat_natCast] at q
  have hg:g<=(L z).length:=by omega
  refine ⟨_,(Ze (ZK (zd (Z7 Zc7 (qv 2) (qv 1)) (Zo (ZI ZbU)) ZM))
   (Ze (ZK (Zu (i:=3) Zdn.nd rfl (by first|exact Or.inl rfl|exact Or.inr rfl) (qj (ZbK (K:=K) rfl) (qv 0) Zaw (ZcZ (Zv ZeD (qv 2) (zF ZgE (by rfl) B.int Zgg (Zb (ZdT Zd4 (qv 2) (qv 1)) Zf)))))))
   (Ze (ZK (Zu (i:=4) Zdn.nd rfl (by first|exact Or.inl rfl|exact Or.inr rfl) (ZX (Z1 (K:=K) rfl) (qv 0) (Zv ZeD (qv 2) (zF ZgE (by rfl) B.int Zgg (Zb (ZdT Zd4 (qv 2) (qv 1)) Zf))) (fun _ _=>rfl))))
   (Zo (ZI (Zv ZN (Zv ZN Zl (ZH (zr (K:=K) rfl) (by rfl) B.len zo (Zb (Zmg (own:=["_law_one"]) (cp:=[(("_law_sign_here":Str),4)]) rfl rfl rfl (by decide +kernel) (by decide +kernel) ⟨⟨rfl,rfl,rfl⟩,trivial⟩ (qv 0) (by decide) (fun _ _ _ _=>zb (i:=0) (show List.Nodup (["_law_one","_law_sign_here"]:List Str) by decide +kernel) rfl (Or.inl rfl) (Or.inr rfl)) (fun _ _ _ _=>Zek (Z7 Zfw (qv 0) (qv 1))) (fun _ _ _ _=>(qv 0))) Zf))) (zH (K:=K) rfl PySem.F.plainAttrs_str PySem.F.slot_str_count PySem.F.type_str_count ZeX (qv 3) (Zb (qv 4) Zf)))))))),?_⟩
  have hsz:sizeLine=16777216:=sizeLine_eq
  refine zI (fun σ' H'=>H'=H/\r≠g/\σ'=[some (V.str z),some (V.int (g:Int)),some (V.int (r:Int)),none,none]) ?_ ?_
  ·simp only [L2.ZR,map_cons,map_nil,length_cons,length_nil,replicate_succ,replicate_zero,cons_append,nil_append,Nat.reduceAdd,Nat.reduceSub,true_and,and_true,decide_eq_true_eq,gS,ZE,tC,zf,zP,YH,tB2,eqR,sc]
   refine z7 (fun e=>?_) fun e=>fun w=>e (by omega)
   have e:r=g:=by omega
   subst e
   rw [LO.ZjR hg] at q
   exact ⟨Zw.refl _,q⟩
  rintro _ H ⟨rfl,ne,rfl⟩
  rw [LO.Zgk hg h10 (by omega) ne,Zk1 r hg (ZjF hg h10 (by omega) ne),ZlC hg (by omega) ne] at q
  have lt2:∀x y:Nat,([x]<[y])↔x<y:=fun x y=>by
   rw [List.cons_lt_cons_iff]
   simp
  obtain ⟨k,ek,kl,q⟩:∃k:Nat,(r:Int)-b2i (decide ((g:Int)<(r:Int)))=(k:Int)/\k<(L z).length/\Q (ZqQ (some (1+((L z).countP fun x=>decide (x<(L z).getD k 0))+((L z).take k).count ((L z).getD k 0)))) H:=by
   rcases Nat.lt_or_ge g r with cc|cc
   ·rw [if_pos cc] at q
    refine ⟨r-1,?_,by omega,q⟩
    rw [show b2i (decide ((g:Int)<(r:Int)))=1 by rw [decide_eq_true (by omega)];rfl]
    omega
   ·rw [if_neg (by omega),Nat.sub_zero] at q
    refine ⟨r,?_,by omega,q⟩
    rw [show b2i (decide ((g:Int)<(r:Int)))=0 by rw [decide_eq_false (by omega)];rfl]
    omega
  refine zI (fun σ' H'=>H'=H/\σ'=[some (V.str z),some (V.int (g:Int)),some (V.int (r:Int)),some (V.str (T ((L z).take k))),none]) ?_ ?_
  ·simp only [true_and,set_cons_zero,set_cons_succ,gS,ZE,Z3,Zz,tOp,tCB,Zx,ZL,tSl,ZaN,pT,Jg,slV,ZiO,gtV,ZkF]
   rw [ek,Zm2]
   exact ⟨by omega,rfl⟩
  rintro _ H ⟨rfl,rfl⟩
  refine zI (fun σ' H'=>H'=H/\σ'=[some (V.str z),some (V.int (g:Int)),some (V.int (r:Int)),some (V.str (T ((L z).take k))),some (V.str (T [(L z).getD k 0]))]) ?_ ?_
  ·simp only [true_and,set_cons_zero,set_cons_succ,gS,ZE,Z3,Zz,tOp,tCB,Zx,ZL,Jg,ixV,ZiO,gtV,ZkF]
   rw [ek]
   refine ⟨by omega,_,zJ 0 (by omega) (by omega),?_⟩
   rw [Int.toNat_natCast]
  rintro _ H ⟨rfl,rfl⟩
  simp only [map_cons,map_nil,length_cons,length_nil,replicate_succ,replicate_zero,cons_append,nil_append,Nat.reduceAdd,true_and,decide_eq_true_eq,set_cons_zero,gS,ZE,tC,zP,tOp,tCB,Zx,ZL,tB2,Y5,ltV,Jz,tBM,tyV,L_T,tCS,ZcJ,J6,Zm3]
  refine ⟨by omega,fun i H2 acc=>H2=H/\acc.length=((L z).take i).countP fun x=>decide (x<(L z).getD k 0),⟨rfl,rfl⟩,?_,?_⟩
  ·rintro i H2 acc hi ⟨rfl,ha⟩
   have ei:(L z)[i]?=some ((L z).getD i 0):=by rw [List.getD_eq_getElem?_getD,List.getElem?_eq_getElem hi];rfl
   have st:=LO.ZkA (fun x=>decide (x<(L z).getD k 0)) ei
   refine z7 (fun w=>⟨rfl,?_⟩) fun w=>⟨rfl,?_⟩
   ·rw [length_append,length_singleton,ha,st,if_pos (decide_eq_true ((lt2 _ _).mp w))]
   ·rw [ha,st,if_neg (fun y=>w ((lt2 _ _).mpr (of_decide_eq_true y)))]
    rfl
  ·rintro H2 acc ⟨rfl,ha⟩ l hl2
   rw [List.take_length] at ha
   refine ⟨acc,.inl (SqL.of Zj),_,rfl,Zw.updN hl2,?_⟩
   rw [ha]
   exact q
def zM (K:PySem.W.Frag):Sp:=fun vs H Q _=>match vs with
 |[.str z,.int h]=>(L z).length<=300/\0<=h/\h<=300/\∀rs,YS rs->flat rs=L z->Q (.str (T (ZJ h++32::wr rs))) H
 |_=>False
theorem ZgX {f:Addr} {fd:FuncData} (F:Fun K "_law_written" "_law_written" qW f fd) (B:Bn mg) {c:Cs} (ER:Er K mg c) {Zp Zh Zi:Addr} (TP:Tp K w.params mg Zp Zh Zi) {Zc Zm:Addr} (CF:Cf K Zc Zm) (GC:Gc mg):Z4 P w K mg base CX0 1 f fd qg (zM K):=by
 refine F.pure YG (fun vs H Q E h=>?_) (fun cdv A outer s H vs Q E hr h=>?_)<;>unfold zM at h<;>split at h<;>first|exact h.elim|skip
 ·rfl
 ·rename_i z h
  obtain ⟨hl,h0,h1,q⟩:=h
  obtain ⟨h,rfl⟩:∃k:Nat,h=(k:Int):=⟨h.toNat,by omega⟩
  refine ⟨_,(Ze (Zu (i:=2) YG.nd rfl (by first|exact Or.inl rfl|exact Or.inr rfl) (Zv ZN (zF ZhL (by rfl) B.str Zdl (Zb (qv 1) Zf)) Zs))
   (Ze (Zu (i:=3) YG.nd rfl (by first|exact Or.inl rfl|exact Or.inr rfl) Zl)
   (Ze (Zhl PassesOwn.never (Z7 Zfw (qv 3) (ZH (zr (K:=K) rfl) (by rfl) B.len zo (Zb (qv 0) Zf))) (Ze (Zu (i:=4) YG.nd rfl (by first|exact Or.inl rfl|exact Or.inr rfl) Zl)
   (Ze (ZK (Zhl PassesOwn.never (Z7 Zc7 (qj (ZbK (K:=K) rfl) (qv 0) (ZcZ (Zv ZN (qv 3) (qv 4))) (ZcZ (Zv ZN (Zv ZN (qv 3) (qv 4)) Zl))) (ZX (Z1 (K:=K) rfl) (qv 0) (qv 3) (fun _ _=>rfl))) (Zo (Zj9 (i:=4) Zmr YG.nd rfl (by first|exact Or.inl rfl|exact Or.inr rfl) Zl))))
   (Ze (Zu (i:=2) YG.nd rfl (by first|exact Or.inl rfl|exact Or.inr rfl) (Zv ZN (Zv ZN (Zv ZN (qv 2) (ZX (Z1 (K:=K) rfl) (qv 0) (qv 3) (fun _ _=>rfl))) (zF ZhL (by rfl) B.str Zdl (Zb (qv 4) Zf))) Zs))
   (Zo (Zj9 (i:=3) Zmr YG.nd rfl (by first|exact Or.inl rfl|exact Or.inr rfl) (qv 4)))))))
   (Zo (ZI (qv 2)))))),?_⟩
  have hsz:sizeLine=16777216:=sizeLine_eq
  have e32:L (Str.ofString " ")=[32]:=by decide +kernel
  have e59:L (Str.ofString ";")=[59]:=by decide +kernel
  obtain ⟨f1,f2,f3,f4,f5⟩:=Zg2 h (by omega)
  simp only [L2.ZR,length_cons,length_nil,replicate_succ,replicate_zero,map_cons,map_nil,cons_append,nil_append,Nat.reduceAdd,Nat.reduceSub,zG,Z3,tOp,tCB,Zx,ZL,ZkN,ZE,gS,tC,Zz,set_cons_zero,set_cons_succ,Y5,L_T,tWh,e32]
  refine ⟨ZkH h (by omega),by omega,?_⟩
  have ls0:∀a:Nat×Nat,([]:List (Nat×Nat)).getLast?=some a->(L z)[0]?≠some a.1:=fun a ha=>by cases ha
  refine ⟨fun k σ H'=>H'=H/\∃(i:Nat) (rs:List (Nat×Nat)) (v:Option V),k=(L z).length-i/\i<=(L z).length/\YS rs/\flat rs=(L z).take i/\(∀a,rs.getLast?=some a->(L z)[i]?≠some a.1)/\σ=[some (V.str z),some (V.int (h:Int)),some (V.str (T (ZJ (h:Int)++32::wr rs))),some (V.int (i:Int)),v],⟨_,rfl,0,[],none,rfl,Nat.zero_le _,Ze3,rfl,ls0,rfl⟩,?_⟩
  rintro k σ H' ⟨rfl,i,rs,v,rfl,hi,gd,fl,ls,rfl⟩
  simp only [decide_eq_true_eq,set_cons_zero,set_cons_succ,gS,ZE,zP,tCB,Zx,ZL,tB2,ltV,Jz]
  refine ⟨by omega,z7 (fun hlt=>?_) fun hge=>?_⟩
  ·have hi2:i<(L z).length:=by omega
   refine zI (fun σ' H2=>H2=H'/\∃m:Nat,1<=m/\i+m<=(L z).length/\(∀j,i<=j->j<i+m->(L z).getD j 0=(L z).getD i 0)/\(L z)[i+m]?≠some ((L z).getD i 0)/\σ'=[some (V.str z),some (V.int (h:Int)),some (V.str (T (ZJ (h:Int)++32::wr rs))),some (V.int (i:Int)),some (V.int (m:Int))]) ?_ ?_
   ·simp only [tWh]
    refine ⟨fun k σ H2=>H2=H'/\∃m:Nat,k=(L z).length-(i+m)/\1<=m/\i+m<=(L z).length/\(∀j,i<=j->j<i+m->(L z).getD j 0=(L z).getD i 0)/\σ=[some (V.str z),some (V.int (h:Int)),some (V.str (T (ZJ (h:Int)++32::wr rs))),some (V.int (i:Int)),some (V.int (m:Int))],⟨_,rfl,1,rfl,Nat.le_refl _,by omega,fun j a b=>by rw [show j=i by omega],rfl⟩,?_⟩
    rintro k σ H2 ⟨rfl,m,rfl,m1,m2,m3,rfl⟩
    simp only [true_and,decide_eq_true_eq,set_cons_zero,set_cons_succ,gS,ZE,tC,tOp,tB2,tSl,pT,Y5,eqR,sc,ixV,slV,L_T,Zqg]
    have hc:cut (L z) (some ((i:Int)+(m:Int))) (some ((i:Int)+(m:Int)+1))=(L z)[i+m]?.toList:=by
     rw [show (i:Int)+(m:Int)=((i+m:Nat):Int) by omega,show (1:Int)=((1:Nat):Int) from rfl,LP.Zkd,List.take_one,List.head?_drop]
    refine ⟨by omega,by omega,_,zJ 0 (by omega) (by omega),?_⟩
    rw [hc,Int.toNat_natCast]
    refine z7 (fun e=>?_) fun e=>⟨m,m1,m2,m3,fun w=>e (by rw [w];rfl),rfl⟩
    have e2:(L z)[i+m]?=some ((L z).getD i 0):=by
     cases hx:(L z)[i+m]? with
     |none=>
      rw [hx] at e
      cases e
     |some x=>
      rw [hx] at e
      rw [List.head_eq_of_cons_eq e]
    have lt:=(List.getElem?_eq_some_iff.mp e2).1
    refine ⟨(L z).length-(i+(m+1)),by omega,m+1,rfl,by omega,by omega,fun j h1 h2=>?_,rfl⟩
    rcases Nat.lt_or_ge j (i+m) with w|w
    ·exact m3 j h1 w
    ·rw [show j=i+m by omega,List.getD_eq_getElem?_getD,e2]
     rfl
   rintro _ H2 ⟨rfl,m,m1,m2,m3,m4,rfl⟩
   simp only [length_cons,length_nil,Nat.reduceAdd,true_and,set_cons_zero,set_cons_succ,gS,ZE,tC,zG,Z3,Zz,tOp,tCB,Zx,ZL,Y5,ixV,L_T,ZkN,Zqg]
   obtain ⟨k1,k2,k3,k4,k5⟩:=Zg2 m (by omega)
   have fll:(flat rs).length=i:=by
    rw [fl,length_take]
    omega
   have rl:=Zb6 gd
   have wl:=Zfm (rs:=rs) fun r hr=>qe hr (by omega)
   have tl:(ZJ (h:Int)++32::wr rs).length<=2000:=by
    rw [length_append,length_cons]
    omega
   have ei:(L z)[i]?=some ((L z).getD i 0):=by
    rw [List.getD_eq_getElem?_getD,List.getElem?_eq_getElem hi2]
    rfl
   have sg:=Zjv (l:=L z) (a:=i) (b:=i+m) (by omega) (by omega) fun j k1 k2=>m3 j k1 k2
   rw [show i+m-i=m by omega] at sg
   rw [e59]
   refine ⟨by omega,_,zJ 0 (by omega) (by omega),by omega,ZkH m (by omega),by rw [length_append,length_singleton];omega,by rw [length_append,length_append,length_singleton,length_singleton];omega,(L z).length-(i+m),by omega,i+m,rs++[((L z).getD i 0,m)],some (V.int (m:Int)),rfl,m2,ZfM gd m1 fun a ha w=>ls a ha (by rw [w];exact ei),?_,fun a ha=>?_,?_⟩
   ·rw [ZbL,fl]
    exact sg.symm
   ·rw [List.getLast?_concat] at ha
    cases ha
    exact m4
   ·rw [ZcS,Int.toNat_natCast,show (i:Int)+(m:Int)=((i+m:Nat):Int) by omega]
    simp
  ·have:i=(L z).length:=by omega
   subst this
   rw [List.take_length] at fl
   exact ⟨Zw.refl _,q rs gd fl⟩
theorem ZyN {c:Cs} (ER:Er K mg c):∀k,k≠2->k<4->ExC K (Zcf c k)/\(Zan K (Zcf c k)).contains (.ref c.BackError)=true/\Zcg K (Zcf c k)/\kitOne K (.ref (Zcf c k)) (.type "ValueError")=some true/\kitOne K (.ref (Zcf c k)) (.ref c.NoPlace)=some false/\
 kitOne K (.ref (Zcf c k)) (.ref c.NoName)=some (decide (k=1))/\kitOne K (.ref (Zcf c k)) (.ref c.NoRow)=some (decide (k=0))/\kitOne K (.ref (Zcf c k)) (.ref c.NoText)=some (decide (k=3)):=by
 intro k h2 h4
 match k,h2,h4 with
 |0,_,_=>exact ⟨ER.x_NoRow,ER.r_NoRow_BackError,ER.g_NoRow,ER.v_NoRow,ER.t_NoRow_NoPlace,ER.t_NoRow_NoName,ER.t_NoRow_NoRow,ER.t_NoRow_NoText⟩
 |1,_,_=>exact ⟨ER.x_NoName,ER.r_NoName_BackError,ER.g_NoName,ER.v_NoName,ER.t_NoName_NoPlace,ER.t_NoName_NoName,ER.t_NoName_NoRow,ER.t_NoName_NoText⟩
 |2,h,_=>exact absurd rfl h
 |3,_,_=>exact ⟨ER.x_NoText,ER.r_NoText_BackError,ER.g_NoText,ER.v_NoText,ER.t_NoText_NoPlace,ER.t_NoText_NoName,ER.t_NoText_NoRow,ER.t_NoText_NoText⟩
def Ys (K:PySem.W.Frag) (CL C:Addr) (tb1 tb2:Addr):Sp:=fun vs H Q _=>match vs with
 |[.ref o,.str z]=>∃t kept,Y8 C H o t kept/\kept.length<=1000/\(L z).length<=5000/\Zr tb1 H/\ZT tb2 H/\tb1≠tb2/\JR kept (L z) (fun kept' x=>∀H' p,SD tb1 tb2 (upd H t (.dK (txK kept'))) H'->H p=none->H' p=some (.tup [.str (Str.ofString "said"),.str (T x)])->Q (.ref p) H')
    (fun k=>(k≠2/\k<4)/\∀H' p p2,SD tb1 tb2 H H'->H p=none->H' p2=some (.tup [.bl (decide (k=1)),.bl (decide (k=0)),.bl (decide (k=3))])->H' p=some (.tup [.str (Str.ofString "refused"),.ref p2])->Q (.ref p) H')
 |_=>False
theorem Zkz {f:Addr} {fd:FuncData} (F:Fun K "_law_said" "_law_said" Za9 f fd) (B:Bn mg) {Zd Zg:Addr} {c:Cs} (ER:Er K mg c) {Zp Zh Zi:Addr} (TP:Tp K w.params mg Zp Zh Zi) {Zc Zm:Addr} (CF:Cf K Zc Zm) (GC:Gc mg) (M_m_Desk_say:Md P w K mg base (CX1 P w) 8 Zm "say" Jh [] (qJ K c Zc Zm Zd Zg)):Z4 P w K mg base CX0 9 f fd Zao (Ys K Zc Zm Zd Zg):=by
 refine F.ok ZdH (fun vs H Q E h=>?_) (fun cdv A outer s H vs Q E hr h=>?_)<;>unfold Ys at h<;>split at h<;>first|exact h.elim|skip
 ·rfl
 ·rename_i o z
  obtain ⟨t,kept,hD,hk,hz,b1,b2,ne,q⟩:=h
  refine ⟨_,(Ze (ZuQ rfl rfl (fun pn E F T=>(Zo (Zu (i:=2) ZdH.nd rfl (by first|exact Or.inl rfl|exact Or.inr rfl) (Zfe T M_m_Desk_say (hr.mono (by decide)) (qv 0) (Zb (qv 1) Zf))))) (Zmd (i:=3) rfl ER.x_BackError rfl ER.m_BackError ZdH.nd rfl rfl (fun a=>(Ze (zd (PW.pt (ZfW (Zcz (Zbk (K:=K) rfl (ZH (Zfn (K:=K) rfl) (by rfl) B.isinstance Y2 (Zb (qv 3) (Zb (Zjw (v:=.ty "ValueError") rfl B.ValueError Zfo rfl) Zf))))) (Ze2 (Zbk (K:=K) rfl (ZH (Zfn (K:=K) rfl) (by rfl) B.isinstance Y2 (Zb (qv 3) (Zb (Jt (v:=.ref c.NoPlace) rfl ER.m_NoPlace rfl) Zf))))))) (Zo (ZI (Yv (Zb Zs (Zb Zs Zf))))) ZM)
   (Zo (ZI (Yv (Zb Zs (Zb (Yv (Zb (ZH (Zfn (K:=K) rfl) (by rfl) B.isinstance Y2 (Zb (qv 3) (Zb (Jt (v:=.ref c.NoName) rfl ER.m_NoName rfl) Zf))) (Zb (ZH (Zfn (K:=K) rfl) (by rfl) B.isinstance Y2 (Zb (qv 3) (Zb (Jt (v:=.ref c.NoRow) rfl ER.m_NoRow rfl) Zf))) (Zb (ZH (Zfn (K:=K) rfl) (by rfl) B.isinstance Y2 (Zb (qv 3) (Zb (Jt (v:=.ref c.NoText) rfl ER.m_NoText rfl) Zf))) Zf)))) Zf))))))) Ztp) ZM)
   (Zo (ZI (Yv (Zb Zs (Zb (qv 2) Zf)))))),?_⟩
  have hsz:sizeLine=16777216:=sizeLine_eq
  simp only [L2.ZR,map_cons,map_nil,length_cons,length_nil,replicate_succ,replicate_zero,cons_append,nil_append,Nat.reduceAdd,Nat.reduceSub,if_true,set_cons_zero,set_cons_succ,gS,ZE,tC,zG,zf,Z3,Zz,zP,YH,tCB,Zx,ZL,Zbv,tOr,Zhh,trV,ZzO,tH1,unb,ZqB,Ze8,append_nil,qJ]
  obtain ⟨⟨dx,ho⟩,ht⟩:=id hD
  refine ⟨o,dx,_,rfl,ho,rfl,t,kept,hD,hk,hz,b1,b2,ne,JR.mono ?_ ?_ q⟩
  ·exact fun kept' x qq H' s'=>⟨by omega,fun p hp=>qq _ p (s'.trans (SD.of (Zw.updN hp) s'.b1 s'.b2)) (Zdf (s'.same.free hp)).1 Zj⟩
  rintro k ⟨⟨k2,k4⟩,qq⟩ H' s'
  obtain ⟨g1,g2,g3,g4,g5,g6,g7,g8⟩:=ZyN ER k k2 k4
  refine ⟨g1,(if_pos g2).symm▸fun a ha=>⟨Zcf c k,true,Zj,g3,g4,Zd0 ⟨Zcf c k,false,Zj,g3,Zd0 ⟨Zcf c k,_,Zj,g3,⟨Zcf c k,_,Zj,g3,⟨Zcf c k,_,Zj,g3,⟨by omega,fun p hp=>⟨by omega,fun p1 hp1=>?_⟩⟩,.inl g8⟩,.inl g7⟩,.inl g6⟩,.inl g5⟩⟩⟩
  obtain ⟨s3,a0,a1⟩:Zw H' (upd (upd (upd H' a (Zh7 a (Zcf c k))) p (HO.tup [V.bl (decide (k=1)),V.bl (decide (k=0)),V.bl (decide (k=3))])) p1 (HO.tup [V.str (Str.ofString "refused"),V.ref p]))/\upd (upd (upd H' a (Zh7 a (Zcf c k))) p (HO.tup [V.bl (decide (k=1)),V.bl (decide (k=0)),V.bl (decide (k=3))])) p1 (HO.tup [V.str (Str.ofString "refused"),V.ref p]) p=some (HO.tup [V.bl (decide (k=1)),V.bl (decide (k=0)),V.bl (decide (k=3))])/\True:=⟨((Zw.updN ha).trans (Zw.updN hp)).trans (Zw.updN hp1),(Zw.updN hp1) p _ Zj,trivial⟩
  exact qq _ p1 p (s'.trans (SD.of s3 s'.b1 s'.b2)) (s'.same.free (Zdf (Zdf hp1).1).1) a0 Zj
def zz (K:PySem.W.Frag):Sp:=fun vs H Q _=>match vs with
 |[.ref p,.str x]=>∃y,H p=some (.tup [.str (Str.ofString "said"),.str y])/\Q (.bl (decide (L y=L x))) H
 |_=>False
theorem Zgl {f:Addr} {fd:FuncData} (F:Fun K "_law_is_said" "_law_is_said" qV f fd) (B:Bn mg) {c:Cs} (ER:Er K mg c) {Zp Zh Zi:Addr} (TP:Tp K w.params mg Zp Zh Zi) {Zc Zm:Addr} (CF:Cf K Zc Zm) (GC:Gc mg):Z4 P w K mg base CX0 1 f fd qd (zz K):=by
 refine F.ok Zf9 (fun vs H Q E h=>?_) (fun cdv A outer s H vs Q E hr h=>?_)<;>unfold zz at h<;>split at h<;>first|exact h.elim|skip
 ·rfl
 ·rename_i p x
  obtain ⟨y,hp,q⟩:=h
  refine ⟨_,(Zo (ZI (ZgK (ZdT Zc7 (ZX (Z1 (K:=K) rfl) (qv 0) Zl (fun _ _=>rfl)) Zs) (ZgK (ZH (Zr3 (K:=K) rfl) (by rfl) B.isinstance Y2 (Zb (ZX (Z1 (K:=K) rfl) (qv 0) Zl (fun _ _=>rfl)) (Zb (Zjw (v:=.ty "str") rfl B.str Zdl rfl) Zf))) (Zmq (ZdT Zc7 (ZX (Z1 (K:=K) rfl) (qv 0) Zl (fun _ _=>rfl)) (qv 1))))))),?_⟩
  simp only [L2.ZR,map_cons,map_nil,length_cons,length_nil,replicate_zero,Nat.reduceAdd,Nat.reduceSub,gS,ZE,tC,zP,tOp,tCB,Zx,ZL,Zwd,eqR,sc,ixV,ZqW,isS,append_nil]
  refine ⟨_,_,.inr (SqT.of hp),rfl,?_⟩
  simp only [if_true,decide_true]
  refine ⟨_,_,.inr (SqT.of hp),rfl,?_⟩
  simp only [if_true,if_false,String.reduceEq]
  refine ⟨_,_,.inr (SqT.of hp),rfl,?_⟩
  simp only [L2.ZR]
  exact q
def abc:List Nat:=(List.range 26).map (97+·)
def Za7 (K:PySem.W.Frag):Sp:=fun vs H Q _=>match vs with
 |[.int n]=>0<=n/\∀l,YI l->Q (.str (T l)) H
 |_=>False
theorem ZkV {f:Addr} {fd:FuncData} (F:Fun K "_law_name" "_law_name" ZaZ f fd) (B:Bn mg) {c:Cs} (ER:Er K mg c) {Zp Zh Zi:Addr} (TP:Tp K w.params mg Zp Zh Zi) {Zc Zm:Addr} (CF:Cf K Zc Zm) (GC:Gc mg):Z4 P w K mg base CX0 1 f fd Zbz (Za7 K):=by
 refine F.pure Zb4 (fun vs H Q E h=>?_) (fun cdv A outer s H vs Q E hr h=>?_)<;>unfold Za7 at h<;>split at h<;>first|exact h.elim|skip
 ·rfl
 ·rename_i n
  obtain ⟨hn,q⟩:=h
  refine ⟨_,(Ze (Zu (i:=1) Zb4.nd rfl (by first|exact Or.inl rfl|exact Or.inr rfl) Zs)
   (Ze (Zeb PassesOwn.never rfl B.range (Zb (Zv ZN Zl (Zv YQ (qv 0) Zl)) Zf) (zb (i:=2) Zb4.nd rfl (by first|exact Or.inl rfl|exact Or.inr rfl)) (Zo (Zu (i:=1) Zb4.nd rfl (by first|exact Or.inl rfl|exact Or.inr rfl) (Zv ZN (qv 1) (ZX (Z1 (K:=K) rfl) Zs (Zv YQ (Zv ZmS (qv 0) (Zv ZN Zl (Zv ZfR Zl (qv 2)))) Zl) (fun _ _=>rfl))))))
   (Zo (ZI (qv 1))))),?_⟩
  have hsz:sizeLine=16777216:=sizeLine_eq
  have e1:L (Str.ofString "abcdefghijklmnopqrstuvwxyz")=abc:=by decide +kernel
  have el:abc.length=26:=rfl
  have ea:∀j:Nat,j<26->abc.getD j 0=97+j:=by decide
  have e0:Str.ofString ""=T []:=by decide +kernel
  have n0:0<=n%8:=Int.emod_nonneg _ (by decide)
  have n1:n%8<8:=Int.emod_lt_of_pos _ (by decide)
  simp only [L2.ZR,map_cons,map_nil,length_cons,length_nil,replicate_succ,replicate_zero,cons_append,nil_append,Nat.reduceAdd,Nat.reduceSub,Int.reduceLT,true_and,set_cons_zero,set_cons_succ,gS,ZE,tC,zG,Z3,Zz,zP,tOp,Zx,ZL,Y5,Zig,JZ,ixV,Zgz,ZmH,ZoD,ZqD,ZeP,ZrA,e1]
  refine ⟨⟨by omega,by omega⟩,fun i σ' H'=>H'=H/\∃l v,l.length=i/\(∀c∈l,97<=c/\c<=122)/\σ'=[some (V.int n),some (V.str (T l)),v],⟨rfl,[],none,rfl,by simp,by rw [e0]⟩,?_,?_⟩
  ·rintro i σ' H' hi ⟨rfl,l,v,ll,lc,rfl⟩
   simp only [length_cons,length_nil,Nat.reduceAdd,true_and,set_cons_zero,set_cons_succ,gS,L_T]
   have m0:0<=n/(8+3 * (0+(i:Int)))%26:=Int.emod_nonneg _ (by decide)
   have m1:n/(8+3 * (0+(i:Int)))%26<26:=Int.emod_lt_of_pos _ (by decide)
   refine ⟨.inl ⟨by decide,by decide⟩,⟨by omega,by omega⟩,by rw [el];omega,_,zJ 0 m0 (by rw [el];omega),by show _+1<=_;omega,l++[abc.getD (n/(8+3 * (0+(i:Int)))%26).toNat 0],_,by rw [length_append,ll];rfl,fun c hc=>?_,rfl⟩
   rcases mem_append.mp hc with hc|hc
   ·exact lc c hc
   ·rw [mem_singleton.mp hc,ea _ (by omega)]
    omega
  ·rintro σ' H' ⟨rfl,l,v,ll,lc,rfl⟩
   simp only [gS]
   exact ⟨Zw.refl _,q l ⟨by omega,by omega,lc⟩⟩
def ZaT (K:PySem.W.Frag):Sp:=fun vs H Q _=>match vs with
 |[.str z,.int h]=>(L z).length<=62/\(∀c∈L z,c≠10)/\(0<=h/\h<=(L z).length)/\∀m,m<=(L z).length->LO.rd (LO.rsL (L z) h.toNat) m=some h.toNat->∀H',Zw H H'->(m≠(L z).length->Q .non H')/\(m=(L z).length->Q (.str (T (LO.Zde (LO.rsL (L z) h.toNat) (L z).length))) H')
 |_=>False
theorem Zk0 {f:Addr} {fd:FuncData} (F:Fun K "_law_read" "_law_read" Za0 f fd) (B:Bn mg) {c:Cs} (ER:Er K mg c) {Zp Zh Zi:Addr} (TP:Tp K w.params mg Zp Zh Zi) {Zc Zm:Addr} (CF:Cf K Zc Zm) (GC:Gc mg) (Ze5:Fn P w K mg base 1 "_law_back" ZbV (Za4 K)):Z4 P w K mg base CX0 2 f fd ZbI (ZaT K):=by
 refine F.ok Zb5 (fun vs H Q E h=>?_) (fun cdv A outer s H vs Q E hr h=>?_)<;>unfold ZaT at h<;>split at h<;>first|exact h.elim|skip
 ·rfl
 ·rename_i z h
  obtain ⟨hl,h10,hh,q⟩:=h
  obtain ⟨g,rfl⟩:∃k:Nat,h=(k:Int):=⟨h.toNat,by omega⟩
  rw [Int.toNat_natCast] at q
  have hg:g<=(L z).length:=by omega
  obtain ⟨m,hm,em⟩:=LO.Zf1 hg h10
  have q:=q m hm em
  refine ⟨_,(Ze (Zu (i:=2) Zb5.nd rfl (by first|exact Or.inl rfl|exact Or.inr rfl) (ZcC Zf))
   (Ze (Zu (i:=3) Zb5.nd rfl (by first|exact Or.inl rfl|exact Or.inr rfl) Zl)
   (Ze (ZK (Zhl PassesOwn.never (Z7 Zfr (qv 3) (qv 1)) (Ze (qM (zH (K:=K) rfl PySem.F.plainAttrs_list PySem.F.slot_list_append PySem.F.type_list_append Zaj (qv 2) (Zb (ZX (Z1 (K:=K) rfl) (qv 0) (Zv ZeD (qv 3) (zF ZgE (by rfl) B.int Zgg (Zb (ZdT Zd4 (qv 3) (qv 1)) Zf))) (fun _ _=>rfl)) Zf)))
   (Zo (Zu (i:=3) Zb5.nd rfl (by first|exact Or.inl rfl|exact Or.inr rfl) (zk Ze5 (hr.mono (by decide)) (Zb (qv 0) (Zb (qv 1) (Zb (qv 3) Zf)))))))))
   (Ze (ZK (qM (ZqE (K:=K) rfl PySem.F.plainAttrs_list PySem.F.slot_list_reverse PySem.F.type_list_reverse Zip (qv 2))))
   (Ze (zd (Z7 Zfw (ZH (zr (K:=K) rfl) (by rfl) B.len zo (Zb (qv 2) Zf)) (ZH (zr (K:=K) rfl) (by rfl) B.len zo (Zb (qv 0) Zf))) (Zo (ZI ZbU)) ZM)
   (Zo (ZI (zH (K:=K) rfl PySem.F.plainAttrs_str PySem.F.slot_str_join PySem.F.type_str_join (Zb1 (K:=K) rfl) Zs (Zb (qv 2) Zf))))))))),?_⟩
  have hsz:sizeLine=16777216:=sizeLine_eq
  simp only [L2.ZR,length_cons,length_nil,replicate_succ,replicate_zero,map_cons,map_nil,cons_append,nil_append,Nat.reduceAdd,Nat.reduceSub,zG,Z3,Zh3,ZL,Zz,set_cons_zero,set_cons_succ,tC]
  refine ⟨by omega,fun p hp=>?_⟩
  refine zI (fun σ' H'=>H'=upd H p (HO.lst (((List.range m).map fun j=>[(zV (L z) g).getD ((LO.rd (LO.rsL (L z) g) j).getD 0) 0]).map fun l=>V.str (T l)))/\σ'=[some (V.str z),some (V.int (g:Int)),some (V.ref p),some (V.int (g:Int))]) ?_ ?_
  ·simp only [tWh]
   refine ⟨fun k σ H'=>∃i r:Nat,k=(L z).length-i/\LO.rd (LO.rsL (L z) g) i=some r/\H'=upd H p (HO.lst (((List.range i).map fun j=>[(zV (L z) g).getD ((LO.rd (LO.rsL (L z) g) j).getD 0) 0]).map fun l=>V.str (T l)))/\σ=[some (V.str z),some (V.int (g:Int)),some (V.ref p),some (V.int (r:Int))],⟨_,0,0,rfl,rfl,rfl,rfl⟩,?_⟩
   rintro k _ _ ⟨i,r,rfl,er,rfl,rfl⟩
   simp only [true_and,String.reduceEq,set_cons_zero,set_cons_succ,gS,ZE,zG,Z3,Zz,ZaM,tOp,tCB,Zx,ZL,tFn,tB2,Jg,neR,sc,ixV,tBM,tyV,ZaK,ZiO,gtV,ZkF,ZiO,Za4]
   have hr2:=LO.ZfV er
   refine z7 (fun e=>?_) fun e=>?_
   ·have ne:r≠g:=fun w=>by
     subst w
     simp at e
    obtain ⟨b,eb,er2⟩:=LO.Zee hg h10 er ne
    have hi2:=LO.ZcQ er2
    obtain ⟨k,ek,kl,ec⟩:∃k:Nat,(r:Int)-b2i (decide ((g:Int)<(r:Int)))=(k:Int)/\k<(L z).length/\(zV (L z) g).getD r 0=(L z).getD k 0:=by
     have q:=ZlC hg (by omega) ne
     rcases Nat.lt_or_ge g r with cc|cc
     ·rw [if_pos cc] at q
      refine ⟨r-1,?_,by omega,q⟩
      rw [show b2i (decide ((g:Int)<(r:Int)))=1 by rw [decide_eq_true (by omega)];rfl]
      omega
     ·rw [if_neg (by omega),Nat.sub_zero] at q
      refine ⟨r,?_,by omega,q⟩
      rw [show b2i (decide ((g:Int)<(r:Int)))=0 by rw [decide_eq_false (by omega)];rfl]
      omega
    rw [ek]
    refine ⟨.inl ⟨_,SqL.of Zj⟩,by omega,_,zJ 0 (by omega) (by omega),p,_,_,rfl,rfl,Zj,?_,hl,h10,hh,⟨by omega,by omega⟩,(L z).length-(i+1),by omega,i+1,b,rfl,er2,?_,?_⟩
    ·rw [length_map,length_map,length_range]
     omega
    ·rw [Zbj,List.range_succ,map_append,map_append,map_singleton,map_singleton,er,Option.getD_some,ec,Int.toNat_natCast]
    ·rw [Int.toNat_natCast,Int.toNat_natCast,eb]
     rfl
   ·have:r=g:=by
     simp at e
     omega
    subst this
    cases LO.Zcx er em
    exact ⟨rfl,rfl⟩
  rintro _ _ ⟨rfl,rfl⟩
  refine zI (fun σ' H'=>H'=upd H p (HO.lst (((List.range m).map fun j=>[(zV (L z) g).getD ((LO.rd (LO.rsL (L z) g) j).getD 0) 0]).reverse.map fun l=>V.str (T l)))/\σ'=[some (V.str z),some (V.int (g:Int)),some (V.ref p),some (V.int (g:Int))]) ?_ ?_
  ·simp only [true_and,and_true,String.reduceEq,gS,ZE,ZaM,ZwK,tyV,Zhg]
   refine ⟨.inl ⟨_,SqL.of Zj⟩,p,_,rfl,Zj,?_⟩
   rw [Zbj,<-map_reverse]
  rintro _ _ ⟨rfl,rfl⟩
  simp only [true_and,decide_eq_true_eq,gS,ZE,tC,zG,zf,zP,YH,tCB,Zx,ZL,tB2,ltV,Jz,ZcV,tBM,tyV]
  refine ⟨_,.inl (SqL.of Zj),by omega,?_⟩
  rw [length_map,length_reverse,length_map,length_range]
  refine z7 (fun w=>(q _ (Zw.updN hp)).1 (by omega)) fun w=>?_
  have mn:m=(L z).length:=by omega
  subst mn
  refine ⟨_,SqL.of Zj,?_,?_⟩
  ·rw [show (L (Str.ofString "")).length=0 by decide +kernel,Nat.mul_zero,map_reverse,List.sum_reverse,LO.Zhb _ _ fun _=>rfl]
   omega
  ·have e0:L (Str.ofString "")=[]:=by decide +kernel
   rw [e0,qy,LO.ZfZ hg em _ (Nat.le_refl _)]
   exact (q _ (Zw.updN hp)).2 rfl
theorem Zgp (n:Nat):1<=(ZJ (n:Int)).length:=by
 rw [Zax,length_map]
 exact Nat.length_toDigits_pos
theorem Zqu {l:List Nat} {c:Nat} (h:l.getLast?=some c):atI l (-1)=some c:=by
 rcases List.eq_nil_or_concat l with rfl|⟨q,x,rfl⟩
 ·cases h
 ·unfold atI ixN
  rw [List.concat_eq_append,List.getLast?_concat] at h
  rw [List.concat_eq_append,length_append,length_singleton,if_neg (by decide),if_pos (by omega),show ((-1:Int)+((q.length+1:Nat):Int)).toNat=q.length by omega,Option.bind_some,List.getElem?_append_right (Nat.le_refl _),Nat.sub_self]
  exact h
theorem Zom {l:List (List Nat)} {i:Int} (h0:0<=i) (h1:i<l.length):∃v,v∈l/\atI (l.map fun x=>V.str (T x)) i=some (V.str (T v)):=by
 obtain ⟨n,rfl⟩:∃n:Nat,i=(n:Int):=⟨i.toNat,by omega⟩
 have hn:n<l.length:=by omega
 refine ⟨l[n],List.getElem_mem hn,?_⟩
 unfold atI ixN
 rw [if_pos h0,length_map,if_pos (by omega),Int.toNat_natCast,Option.bind_some,List.getElem?_map,List.getElem?_eq_getElem hn]
 rfl
theorem Zn0 (l:List Nat):cut l none (some (-1))=l.dropLast:=by
 rw [List.dropLast_eq_take]
 unfold cut
 show (l.drop 0).take ((if (-1:Int)<0 then ((-1:Int)+(l.length:Int)).toNat else min (-1:Int).toNat l.length)-0)=_
 rw [if_pos (by decide),List.drop_zero,show ((-1:Int)+(l.length:Int)).toNat-0=l.length-1 by omega]
section
variable {h h':Nat} {rs rs':List (Nat×Nat)}
theorem ZAI (p:Pk (48::(ZJ (h:Int)++32::wr rs)) h' rs'):False:=by
 obtain ⟨e1,_⟩:=Yx (Zbx h') (a:=ZJ (h':Int)) (b:=48::ZJ (h:Int)) (fun c hc w=>by
  rcases mem_cons.mp hc with y|y
  ·omega
  ·exact Zbx h c y w) p.2.2.2.symm
 have g:=ZeW (n:=h') (by have:=p.2.1;have:=p.2.2.1;omega)
 have:=g.2.2.2 (by rw [e1];rfl)
 rw [e1] at this
 have n:=Zgp h
 rw [(List.cons.inj this).2] at n
 cases n
theorem ZBa {k:Nat} (hk:(flat rs).length<k) (p:Pk (ZJ (k:Int)++32::wr rs) h' rs'):False:=by
 obtain ⟨e1,e2⟩:=Yx (Zbx h') (Zbx k) p.2.2.2.symm
 have:=p.2.2.1
 rw [ZeJ e1,ZdF e2] at this
 omega
theorem ZAH (p:Pk (ZJ (h:Int)++95::wr rs) h' rs'):False:=by
 have e:=p.2.2.2
 have d:=ZbN h
 have d':=ZbN h'
 rcases Nat.lt_or_ge (ZJ (h:Int)).length (ZJ (h':Int)).length with w|w
 ·have e2:=congrArg (fun l:List Nat=>l[(ZJ (h:Int)).length]?) e
  rw [List.getElem?_append_right (Nat.le_refl _),Nat.sub_self,List.getElem?_append_left w] at e2
  have:=d' 95 (List.mem_of_getElem? e2.symm)
  omega
 ·have e2:=congrArg (fun l:List Nat=>l[(ZJ (h':Int)).length]?) e
  rw [List.getElem?_append_right (l₁:=ZJ (h':Int)) (Nat.le_refl _),Nat.sub_self] at e2
  rcases Nat.lt_or_ge (ZJ (h':Int)).length (ZJ (h:Int)).length with w2|w2
  ·rw [List.getElem?_append_left w2] at e2
   have:=d 32 (List.mem_of_getElem? e2)
   omega
  ·rw [List.getElem?_append_right w2,show (ZJ (h':Int)).length-(ZJ (h:Int)).length=0 by omega] at e2
   cases e2
theorem ZAR (p:Pk (ZJ (h:Int)++32::wr rs).dropLast h' rs'):False:=by
 have e:=p.2.2.2
 rw [List.dropLast_append_of_ne_nil (by simp)] at e
 rcases List.eq_nil_or_concat rs with y|⟨q,a,y⟩
 ·subst y
  have e:ZJ (h:Int)++[]=_:=e
  rw [append_nil] at e
  exact Zbx h 32 (by rw [e];simp) rfl
 ·rw [List.concat_eq_append] at y
  subst y
  rw [ZcS,List.dropLast_cons_of_ne_nil (by simp),<-cons_append,<-append_assoc,List.dropLast_concat] at e
  obtain ⟨_,e2⟩:=Yx (Zbx h') (Zbx h) e.symm
  rcases List.eq_nil_or_concat rs' with y|⟨q',a',y⟩
  ·subst y
   have:=congrArg List.length e2
   simp [wr] at this
  ·rw [List.concat_eq_append] at y
   subst y
   rw [ZcS] at e2
   have e3:=congrArg List.getLast? e2
   rw [<-cons_append,<-append_assoc,List.getLast?_concat] at e3
   have n:=Zgp a.2
   have:(wr q++a.1::ZJ (a.2:Int)).getLast?=(ZJ (a.2:Int)).getLast?:=by
    rw [List.getLast?_append,List.getLast?_cons]
    cases hx:(ZJ (a.2:Int)).getLast? with
    |none=>
     rw [List.getLast?_eq_none_iff.mp hx] at n
     cases n
    |some x=>rfl
   rw [this] at e3
   have:=ZbN a.2 59 (List.mem_of_getLast? e3.symm)
   omega
theorem ZAZ (p:Pk (ZJ (h:Int)++32::wr rs++[97,48,59]) h' rs'):False:=by
 have e:=p.2.2.2
 rw [append_assoc,cons_append] at e
 obtain ⟨_,e2⟩:=Yx (Zbx h') (Zbx h) e.symm
 obtain ⟨tl,e3,e4⟩:=Zbb e2
 have e5:tl=[(97,0)]:=ZdF (e4.symm.trans (by decide +kernel))
 have:=p.1.1 (97,0) (by rw [e3,e5];simp)
 simp at this
theorem ZAp (p:Pk (ZJ (h:Int)++32::wr []++[97]) h' rs'):False:=by
 have e:=p.2.2.2
 rw [append_assoc,cons_append] at e
 obtain ⟨_,e2⟩:=Yx (Zbx h') (Zbx h) e.symm
 obtain ⟨n,r,_,e3⟩:=Zgt e2
 have:=congrArg List.length e3
 simp at this
theorem ZAU {c:Nat} (g:YS rs) (hc:(flat rs).getLast?=some c) (p:Pk (ZJ (h:Int)++32::wr rs++[c,49,59]) h' rs'):False:=by
 have e:=p.2.2.2
 rw [append_assoc,cons_append] at e
 obtain ⟨_,e2⟩:=Yx (Zbx h') (Zbx h) e.symm
 obtain ⟨tl,e3,e4⟩:=Zbb e2
 have e5:tl=[(c,1)]:=ZdF (e4.symm.trans (by rw [ZcM,show ZJ ((1:Nat):Int)=[49] by decide +kernel];rfl))
 subst e5
 rcases List.eq_nil_or_concat rs with y|⟨q,a,y⟩
 ·subst y
  cases hc
 ·rw [List.concat_eq_append] at y
  subst y
  rw [Zls g (List.getLast?_concat)] at hc
  refine p.1.2 q.length a (c,1) ?_ ?_ (Option.some.inj hc)
  ·rw [e3,append_assoc,List.getElem?_append_right (Nat.le_refl _),Nat.sub_self]
   rfl
  ·rw [e3,append_assoc,List.getElem?_append_right (by omega),show q.length+1-q.length=1 by omega]
   rfl
theorem ZA5 (p:Pk [] h' rs'):False:=by
 have:=congrArg List.length p.2.2.2
 simp at this
theorem ZAQ {l:List Nat} (p:Pk (32::l) h' rs'):False:=by
 obtain ⟨e1,_⟩:=Yx (Zbx h') (b:=[]) (fun c hc=>by cases hc) p.2.2.2.symm
 have n:=Zgp h'
 rw [e1] at n
 cases n
theorem ZAY (p:Pk (48::32::97::51::48::49::59::[]) h' rs'):False:=by
 obtain ⟨_,e2⟩:=Yx (Zbx h') (b:=[48]) (fun c hc=>by rw [mem_singleton.mp hc];decide) p.2.2.2.symm
 have e5:rs'=[(97,301)]:=ZdF (e2.trans (by decide +kernel))
 have:=p.2.1
 rw [e5] at this
 revert this
 decide +kernel
end
def ZbH (K:PySem.W.Frag):Sp:=fun vs H Q _=>match vs with
 |[.str z,.int h,.int _,.int _]=>(L z).length<=62/\0<=h/\h<=(L z).length/\∀l:List Nat,l.length<=4000->(∀h rs,¬Pk l h rs)->∀H',Zw H H'->Q (.str (T l)) H'
 |_=>False
theorem Zpw {f:Addr} {fd:FuncData} (F:Fun K "_law_bad" "_law_bad" Zb9 f fd) (B:Bn mg) {c:Cs} (ER:Er K mg c) {Zp Zh Zi:Addr} (TP:Tp K w.params mg Zp Zh Zi) {Zc Zm:Addr} (CF:Cf K Zc Zm) (GC:Gc mg) (Yl:Fn P w K mg base 1 "_law_written" qg (zM K)):Z4 P w K mg base CX0 2 f fd Zdb (ZbH K):=by
 refine F.ok Zal (fun vs H Q E h=>?_) (fun cdv A outer s H vs Q E hr h=>?_)<;>unfold ZbH at h<;>split at h<;>first|exact h.elim|skip
 ·rfl
 ·rename_i z h kd n
  obtain ⟨hl,h0,h1,q⟩:=h
  obtain ⟨h,rfl⟩:∃k:Nat,h=(k:Int):=⟨h.toNat,by omega⟩
  refine ⟨_,(Ze (ZK (Zu (i:=4) Zal.nd rfl (by first|exact Or.inl rfl|exact Or.inr rfl) (zk Yl (hr.mono (by decide)) (Zb (qv 0) (Zb (qv 1) Zf)))))
   (Ze (ZK (Zu (i:=5) Zal.nd rfl (by first|exact Or.inl rfl|exact Or.inr rfl) (qj (ZbK (K:=K) rfl) (qv 4) (ZcZ (Zv ZN (ZH (zr (K:=K) rfl) (by rfl) B.len zo (Zb (zF ZhL (by rfl) B.str Zdl (Zb (qv 1) Zf)) Zf)) Zl)) Zaw)))
   (Ze (Zu (i:=6) Zal.nd rfl (by first|exact Or.inl rfl|exact Or.inr rfl) Zs)
   (Ze (ZK (zd (Z7 Zfr (qv 0) Zs) (Zo (Zu (i:=6) Zal.nd rfl (by first|exact Or.inl rfl|exact Or.inr rfl) (Zv ZN (ZX (Z1 (K:=K) rfl) (qv 0) (ZmA Zow Zl) (fun _ _=>rfl)) Zs))) ZM))
   (Ze (ZK (Zu (i:=7) Zal.nd rfl (by first|exact Or.inl rfl|exact Or.inr rfl) (Yv (Zb (Zv ZN Zs (qv 4)) (Zb (Zv ZN (Zv ZN (zF ZhL (by rfl) B.str Zdl (Zb (Zv ZN (Zv ZN (ZH (zr (K:=K) rfl) (by rfl) B.len zo (Zb (qv 0) Zf)) Zl) (Zv YQ (qv 3) Zl)) Zf)) Zs) (qv 5)) (Zb (Zv ZN (Zv ZN (zF ZhL (by rfl) B.str Zdl (Zb (qv 1) Zf)) Zs) (qv 5)) (Zb (qj (ZbK (K:=K) rfl) (qv 4) Zaw (ZcZ (ZmA Zow Zl))) Zf)))))))
   (Ze (ZK (Zu (i:=7) Zal.nd rfl (by first|exact Or.inl rfl|exact Or.inr rfl) (Zv (ZwA (K:=K) rfl) (qv 7) (Yv (Zb (Zv ZN (qv 4) Zs) (Zb (Zv ZN (qv 4) (qv 6)) (Zb Zs (Zb (Zv ZN Zs (qv 4)) (Zb Zs Zf)))))))))
   (Zo (ZI (ZX (Z1 (K:=K) rfl) (qv 7) (Zv YQ (qv 2) Zl) (fun _ _=>rfl)))))))))),?_⟩
  have hsz:sizeLine=16777216:=sizeLine_eq
  simp only [L2.ZR,length_cons,length_nil,replicate_succ,replicate_zero,map_cons,map_nil,cons_append,nil_append,Nat.reduceAdd,Nat.reduceSub,zG]
  refine zI (fun σ' H'=>H'=H/\∃rs,YS rs/\flat rs=L z/\σ'=[some (V.str z),some (V.int (h:Int)),some (V.int kd),some (V.int n),some (V.str (T (ZJ (h:Int)++32::wr rs))),none,none,none]) ?_ ?_
  ·simp only [true_and,set_cons_zero,set_cons_succ,gS,ZE,Z3,Zz,Zx,ZL,tFn,zM]
   exact ⟨by omega,by omega,by omega,fun rs g f=>⟨rs,g,f,rfl⟩⟩
  rintro _ H ⟨rfl,rs,g,f,rfl⟩
  obtain ⟨f1,f2,f3,f4,f5⟩:=Zg2 h (by omega)
  have fl:(flat rs).length<=62:=by rw [f];exact hl
  have rl:=Zb6 g
  have wl:=Zfm (rs:=rs) fun r hr=>qe hr (by omega)
  have gl:(ZJ (h:Int)++32::wr rs).length<=400:=by
   rw [length_append,length_cons]
   omega
  refine zI (fun σ' H'=>H'=H/\σ'=[some (V.str z),some (V.int (h:Int)),some (V.int kd),some (V.int n),some (V.str (T (ZJ (h:Int)++32::wr rs))),some (V.str (T (wr rs))),none,none]) ?_ ?_
  ·simp only [true_and,set_cons_zero,set_cons_succ,gS,ZE,tC,Z3,Zz,tOp,tCB,Zx,ZL,tSl,ZaN,pT,Y5,slV,Jz,L_T,ZkN]
   refine ⟨ZkH h (by omega),by omega,by omega,?_⟩
   rw [show ((ZJ (h:Int)).length:Int)+1=((ZJ (h:Int)++[32]).length:Nat) by rw [length_append];rfl,ZbX,List.append_cons,List.drop_left]
  rintro _ H ⟨rfl,rfl⟩
  have e97:L (Str.ofString "a")=[97]:=by decide +kernel
  have ee:L (Str.ofString "")=[]:=by decide +kernel
  have e1x:L (Str.ofString "1;")=[49,59]:=by decide +kernel
  have e48:L (Str.ofString "0")=[48]:=by decide +kernel
  have e32:L (Str.ofString " ")=[32]:=by decide +kernel
  have e95:L (Str.ofString "_")=[95]:=by decide +kernel
  have ea0:L (Str.ofString "a0;")=[97,48,59]:=by decide +kernel
  simp only [Z3]
  refine zI (fun σ' H'=>H'=H/\∃m:List Nat,(L z=[]/\m=[97]\/∃c,(L z).getLast?=some c/\m=[c,49,59])/\σ'=[some (V.str z),some (V.int (h:Int)),some (V.int kd),some (V.int n),some (V.str (T (ZJ (h:Int)++32::wr rs))),some (V.str (T (wr rs))),some (V.str (T m)),none]) ?_ ?_
  ·simp only [length_cons,length_nil,cons_append,nil_append,Nat.reduceAdd,true_and,set_cons_zero,set_cons_succ,gS,ZE,tC,zf,Z3,Zz,YH,tOp,tUn,tB2,Y5,neR,sc,Zkw,ixV,L_T,Zkw,ee,e1x]
   refine z7 (fun w=>?_) fun w=>⟨[97],.inl ⟨by simpa using w,rfl⟩,by rw [show Str.ofString "a"=T [97] by decide +kernel]⟩
   cases hx:(L z).getLast? with
   |none=>simp [List.getLast?_eq_none_iff.mp hx] at w
   |some c=>exact ⟨by omega,c,Zqu hx,by omega,_,.inr ⟨c,rfl,rfl⟩,rfl⟩
  rintro _ H ⟨rfl,m,hm,rfl⟩
  have ml:m.length<=3:=by
   rcases hm with ⟨_,rfl⟩|⟨c,_,rfl⟩<;>simp
  have n0:0<=n%999:=Int.emod_nonneg _ (by decide)
  have n1:n%999<999:=Int.emod_lt_of_pos _ (by decide)
  obtain ⟨k,ek⟩:∃k:Nat,n%999=(k:Int):=⟨(n%999).toNat,by omega⟩
  refine zI (fun σ' H'=>Zw H H'/\∃p,H' p=some (.tup ([48::(ZJ (h:Int)++32::wr rs),ZJ (((L z).length+1+k:Nat):Int)++32::wr rs,ZJ (h:Int)++95::wr rs,(ZJ (h:Int)++32::wr rs).dropLast].map fun l=>V.str (T l)))/\σ'=[some (V.str z),some (V.int (h:Int)),some (V.int kd),some (V.int n),some (V.str (T (ZJ (h:Int)++32::wr rs))),some (V.str (T (wr rs))),some (V.str (T m)),some (V.ref p)]) ?_ ?_
  ·simp only [map_cons,map_nil,length_cons,length_nil,cons_append,nil_append,Nat.reduceAdd,Int.reduceLT,true_and,set_cons_zero,set_cons_succ,gS,ZE,tC,Z3,Zz,tOp,tUn,tCB,Zx,ZL,Zbv,tSl,ZaN,pT,Y5,JZ,Zkw,slV,Jz,L_T,ZkN,Zkw,ZeP,e48,e32,e95]
   rw [ek,show ((L z).length:Int)+1+(k:Int)=(((L z).length+1+k:Nat):Int) by omega,Zn0,append_assoc,append_assoc]
   have kl:=Zop (i:=(((L z).length+1+k:Nat):Int)) (by omega) (by omega)
   have kn:=ZhU kl
   refine ⟨by omega,by omega,kl,by omega,by rw [length_append,length_singleton];omega,ZkH h (by omega),by omega,by rw [length_append,length_singleton];omega,by omega,by omega,fun p hp=>⟨Zw.updN hp,p,Zj,rfl⟩⟩
  rintro _ H2 ⟨s2,p,hp,rfl⟩
  refine zI (fun σ' H'=>Zw H H'/\∃p,H' p=some (.tup ([48::(ZJ (h:Int)++32::wr rs),ZJ (((L z).length+1+k:Nat):Int)++32::wr rs,ZJ (h:Int)++95::wr rs,(ZJ (h:Int)++32::wr rs).dropLast,ZJ (h:Int)++32::wr rs++[97,48,59],ZJ (h:Int)++32::wr rs++m,[],32::(ZJ (h:Int)++32::wr rs),[48,32,97,51,48,49,59]].map fun l=>V.str (T l)))/\σ'=[some (V.str z),some (V.int (h:Int)),some (V.int kd),some (V.int n),some (V.str (T (ZJ (h:Int)++32::wr rs))),some (V.str (T (wr rs))),some (V.str (T m)),some (V.ref p)]) ?_ ?_
  ·simp only [map_cons,map_nil,length_cons,length_nil,cons_append,nil_append,Nat.reduceAdd,set_cons_zero,set_cons_succ,gS,ZE,tC,Z3,Zz,tOp,Zx,ZL,Zbv,Y5,L_T,Zn8,ea0,e32]
   refine ⟨by omega,by omega,by omega,by omega,fun p1 hp1=>⟨p,p1,_,_,rfl,rfl,SqT.of ((Zw.updN hp1) p _ hp),SqT.of Zj,by simp,by simp;omega,fun w=>absurd w (by simp),fun _ p2 hp2=>⟨(s2.trans (Zw.updN hp1)).trans (Zw.updN hp2),p2,?_,rfl⟩⟩⟩
   rw [Zj,show Str.ofString ""=T [] by decide +kernel,show Str.ofString "0 a301;"=T [48,32,97,51,48,49,59] by decide +kernel]
   rfl
  rintro _ H3 ⟨s3,p,hp,rfl⟩
  simp only [Int.reduceLT,true_and,gS,ZE,tC,zP,tOp,JZ,ixV,ZeP]
  have k0:0<=kd%9:=Int.emod_nonneg _ (by decide)
  have k1:kd%9<9:=Int.emod_lt_of_pos _ (by decide)
  obtain ⟨v,hv,ha⟩:=Zom (l:=[48::(ZJ (h:Int)++32::wr rs),ZJ (((L z).length+1+k:Nat):Int)++32::wr rs,ZJ (h:Int)++95::wr rs,(ZJ (h:Int)++32::wr rs).dropLast,ZJ (h:Int)++32::wr rs++[97,48,59],ZJ (h:Int)++32::wr rs++m,[],32::(ZJ (h:Int)++32::wr rs),[48,32,97,51,48,49,59]]) k0 k1
  refine ⟨_,_,.inr (SqT.of hp),ha,?_⟩
  have kl:=Zop (i:=(((L z).length+1+k:Nat):Int)) (by omega) (by omega)
  have kn:=ZhU kl
  have el:(ZJ (h:Int)++32::wr rs).length=(ZJ (h:Int)).length+(wr rs).length+1:=by
   rw [length_append,length_cons]
   omega
  refine q v ?_ (fun h' rs' p=>?_) H3 s3
  ·simp only [mem_cons,List.not_mem_nil,or_false] at hv
   rcases hv with rfl|rfl|rfl|rfl|rfl|rfl|rfl|rfl|rfl<;>simp only [length_append,length_cons,length_nil,List.length_dropLast]<;>omega
  ·simp only [mem_cons,List.not_mem_nil,or_false] at hv
   rcases hv with rfl|rfl|rfl|rfl|rfl|rfl|rfl|rfl|rfl
   ·exact ZAI p
   ·exact ZBa (by rw [f];omega) p
   ·exact ZAH p
   ·exact ZAR p
   ·exact ZAZ p
   ·rcases hm with ⟨e0,rfl⟩|⟨c,hc,rfl⟩
    ·rw [e0] at f
     rw [ZaG g Ze3 f] at p
     exact ZAp p
    ·exact ZAU g (by rw [f];exact hc) p
   ·exact ZA5 p
   ·exact ZAQ p
   ·exact ZAY p
theorem ZkU {n x:List Nat} (hn:32∉n):qO (jn [cd "load",n]++32::x) 0 [cd "load",n,x]:=by
 have hk:32∉cd "load":=by decide +kernel
 have e:jn [cd "load",n]++32::x=cd "load"++32::(n++32::x):=by simp [jn]
 rw [e]
 refine ⟨by rw [Zea _ hk];decide +kernel,?_,rfl,fun h=>absurd h (by decide)⟩
 show _=spl 32 2 _
 rw [Zaq 1 _ hk,Zaq 0 _ hn,Zer]
theorem Zkr {n:List Nat} (hn:32∉n):qO (jn [cd "pack",n]) 1 [cd "pack",n]:=by
 have hk:32∉cd "pack":=by decide +kernel
 refine ⟨by rw [ZrC hk];decide +kernel,?_,rfl,fun h=>absurd h (by decide)⟩
 show _=spl 32 ((jn [cd "pack",n]).length+1) (cd "pack"++32::n)
 rw [Zaq _ _ hk,ZeH _ hn]
structure B3 (tb1 tb2 tb3:Addr) (H:Hp):Prop where
 b1:Zr tb1 H
 b2:ZT tb2 H
 b3:qT tb3 H
 n12:tb1≠tb2
 n31:tb3≠tb1
 n32:tb3≠tb2
section
variable {tb1 tb2 tb3:Addr} {H H1:Hp}
theorem B3.sd (b:B3 tb1 tb2 tb3 H) (s:SD tb1 tb2 H H1):B3 tb1 tb2 tb3 H1:=⟨s.b1,s.b2,s.b3 _ _ _ b.n31 b.n32 b.b3,b.n12,b.n31,b.n32⟩
theorem B3.same (b:B3 tb1 tb2 tb3 H) (s:Zw H H1):B3 tb1 tb2 tb3 H1:=⟨Jl b.b1 s,Jl b.b2 s,Jl b.b3 s,b.n12,b.n31,b.n32⟩
theorem B3.last (b:B3 tb1 tb2 tb3 H) (e:Yq tb3 H H1) (b3:qT tb3 H1):B3 tb1 tb2 tb3 H1:=⟨Bk.keep b.b1 b.b3 (Ne.symm b.n31) e,Bk.keep b.b2 b.b3 (Ne.symm b.n32) e,b3,b.n12,b.n31,b.n32⟩
theorem B3.dk {t:Addr} {kvs:List (Key×V)} {o:HO} (b:B3 tb1 tb2 tb3 H) (ht:H t=some (.dK kvs)):B3 tb1 tb2 tb3 (upd H t o):=⟨ZfJ b.b1 ht,ZfJ b.b2 ht,ZfJ b.b3 ht,b.n12,b.n31,b.n32⟩
end
theorem jn2 (w n:List Nat):jn [w,n]=w++32::n:=rfl
theorem Zk6 {kept:YE} {n x:List Nat} {Qs:YE->List Nat->Prop} {Qr:Nat->Prop} (hn:YI n) (hx:zC kept n=some x) (q:Qs kept x):JR kept (cd "text"++32::n) Qs Qr:=by
 have gr:=Zf0 hn.noB
 rw [jn2] at gr
 have kt:cd "text"≠cd "keep"/\cd "text"≠cd "load":=by decide +kernel
 refine ⟨fun w=>absurd ⟨_,_,gr⟩ w,fun i ws g=>?_⟩
 obtain ⟨rfl,rfl⟩:=g.uniq gr
 exact ⟨fun w=>absurd ⟨fun z=>absurd z fun z=>z.elim kt.1 kt.2,fun _=>⟨by show (zC kept n).isSome=true;rw [hx];rfl,fun z=>by cases z⟩⟩ w,fun _=>.inr (.inl ⟨rfl,x,hx,q⟩)⟩
theorem ZiA {kept:YE} {n:List Nat} {Qs:YE->List Nat->Prop} {Qr:Nat->Prop} (hn:YI n) (hx:zC kept n=none) (q:Qr 1):JR kept (cd "text"++32::n) Qs Qr:=by
 have gr:=Zf0 hn.noB
 rw [jn2] at gr
 have kt:cd "text"≠cd "keep"/\cd "text"≠cd "load":=by decide +kernel
 refine ⟨fun w=>absurd ⟨_,_,gr⟩ w,fun i ws g=>?_⟩
 obtain ⟨rfl,rfl⟩:=g.uniq gr
 refine ⟨fun _=>q,fun w=>?_⟩
 have:=(w.2 (fun z=>z.elim kt.1 kt.2)).1
 have:(zC kept n).isSome=true:=this
 rw [hx] at this
 cases this
theorem Zld {kept:YE} {n x:List Nat} {Qs:YE->List Nat->Prop} {Qr:Nat->Prop} (hn:YI n) (hx:zC kept n=some x) (xl:x.length<=62) (q:∀rs,YS rs->flat rs=LO.Z5 x->Qs kept (ZJ (LO.Zdg x:Nat)++32::wr rs)):JR kept (cd "pack"++32::n) Qs Qr:=by
 have gr:=Zkr hn.noB
 rw [jn2] at gr
 have kt:cd "pack"≠cd "keep"/\cd "pack"≠cd "load":=by decide +kernel
 refine ⟨fun w=>absurd ⟨_,_,gr⟩ w,fun i ws g=>?_⟩
 obtain ⟨rfl,rfl⟩:=g.uniq gr
 exact ⟨fun w=>absurd ⟨fun z=>absurd z fun z=>z.elim kt.1 kt.2,fun _=>⟨by show (zC kept n).isSome=true;rw [hx];rfl,fun z=>by cases z⟩⟩ w,fun _=>.inr (.inr (.inl ⟨rfl,x,hx,xl,q⟩))⟩
theorem Znv {K:PySem.W.Frag} {H:Hp} {p p2 r r2:Addr} {x:Str} {a b c:Bool} (h:H p=some (.tup [.str x,.ref p2])) (h2:H p2=some (.tup [.bl a,.bl b,.bl c])) (g:H r=some (.tup [.str x,.ref r2])) (g2:H r2=some (.tup [.bl a,.bl b,.bl c])):ZrR K H p r:=by
 refine ⟨_,_,.inr ⟨SqT.of h,SqT.of g⟩,rfl,fun j y z hy hz=>?_⟩
 match j,hy,hz with
 |0,hy,hz=>
  cases Option.some.inj hy
  cases Option.some.inj hz
  exact .flat rfl rfl (ZhX rfl)
 |1,hy,hz=>
  cases Option.some.inj hy
  cases Option.some.inj hz
  refine .tup (SqT.of h2) (SqT.of g2) rfl fun j y z hy hz=>?_
  rw [hy] at hz
  cases Option.some.inj hz
  have:=ZAu (x:=V.bl a) (y:=V.bl b) (z:=V.bl c) rfl rfl rfl y (List.mem_of_getElem? hy)
  exact .flat this this (ZhX this)
 |j+2,hy,_=>cases hy
def qH (K:PySem.W.Frag) (CL C:Addr) (tb3 tb1 tb2:Addr):Sp:=fun vs H Q _=>match vs with
 |[.ref o,.ref d,.ref l]=>∃t kept,∃ns:List (List Nat),Y8 C H o t kept/\H d=some (.dK (txK kept))/\kept.length<=1000/\(∀n x,zC kept n=some x->x.length<=62)/\H l=some (.lst (ns.map fun n=>V.str (T n)))/\(∀n∈ns,YI n)/\B3 tb1 tb2 tb3 H/\∀H',ZS H H'->B3 tb1 tb2 tb3 H'->Q (.bl true) H'
 |_=>False
theorem Zfz {f:Addr} {fd:FuncData} (F:Fun K "_law_all_told" "_law_all_told" qp f fd) (B:Bn mg) {Zt Zd Zg:Addr} {c:Cs} (ER:Er K mg c) {Zp Zh Zi:Addr} (TP:Tp K w.params mg Zp Zh Zi) {Zc Zm:Addr} (CF:Cf K Zc Zm) (GC:Gc mg) (Za6:Fn P w K mg base 4 "_law_last" Zba (JB K Zt)) (Yl:Fn P w K mg base 1 "_law_written" qg (zM K)) (ql:Fn P w K mg base 9 "_law_said" Zao (Ys K Zc Zm Zd Zg)) (zN:Fn P w K mg base 1 "_law_is_said" qd (zz K)):Z4 P w K mg base CX0 10 f fd Jq (qH K Zc Zm Zt Zd Zg):=by
 refine F.ok JO (fun vs H Q E h=>?_) (fun cdv A outer s H vs Q E hr h=>?_)<;>unfold qH at h<;>split at h<;>first|exact h.elim|skip
 ·rfl
 ·rename_i o d l
  obtain ⟨t,kept,ns,hD,hd,hk,hx,hl,hn,B,q⟩:=h
  refine ⟨_,(Ze (ZqI (K:=K) rfl PassesOwn.never rfl (qv 2) (zb (i:=3) JO.nd rfl (by first|exact Or.inl rfl|exact Or.inr rfl)) (Zo (zd (Zgw (Zir (Y7 hr) (qv 3) (qv 1))) (Ze (ZK (Zpt (zk Za6 (hr.mono (by decide)) (Zb (Yr (Y7 hr) (qv 1) (qv 3) (fun _ _=>rfl)) Zf)) (Zjj (K:=K) (n:=2) rfl rfl (Zbd (zb (i:=4) JO.nd rfl (by first|exact Or.inl rfl|exact Or.inr rfl)) (Zbd (zb (i:=5) JO.nd rfl (by first|exact Or.inl rfl|exact Or.inr rfl)) ZgH)))))
   (Ze (ZK (zd (Zcz (Zbk (K:=K) rfl (zk zN (hr.mono (by decide)) (Zb (zk ql (hr.mono (by decide)) (Zb (qv 0) (Zb (Zv ZN Zs (qv 3)) Zf))) (Zb (Yr (Y7 hr) (qv 1) (qv 3) (fun _ _=>rfl)) Zf))))) (Zo (ZI qY)) ZM))
   (Zo (zd (Zcz (Zbk (K:=K) rfl (zk zN (hr.mono (by decide)) (Zb (zk ql (hr.mono (by decide)) (Zb (qv 0) (Zb (Zv ZN Zs (qv 3)) Zf))) (Zb (zk Yl (hr.mono (by decide)) (Zb (qv 4) (Zb (qv 5) Zf))) Zf))))) (Zo (ZI qY)) ZM)))) (Zo (zd (Z7 (ZyR (K:=K) rfl hr) (zk ql (hr.mono (by decide)) (Zb (qv 0) (Zb (Zv ZN Zs (qv 3)) Zf))) (Yv (Zb Zs (Zb (Yv (Zb qY (Zb qY (Zb qY Zf)))) Zf)))) (Zo (ZI qY)) ZM)))))
   (Zo (ZI qY))),?_⟩
  have hsz:sizeLine=16777216:=sizeLine_eq
  simp only [L2.ZR,length_cons,length_nil,replicate_succ,replicate_zero,map_cons,map_nil,cons_append,nil_append,Nat.reduceAdd,Nat.reduceSub,zG,ZmP,Zzz,ZE]
  refine ⟨_,SqL.of hl,fun i σ H'=>ZS H H'/\B3 Zd Zg Zt H'/\∃v1 v2 v3,σ=[some (V.ref o),some (V.ref d),some (V.ref l),v1,v2,v3],⟨ZS.refl _,B,_,_,_,rfl⟩,?_,?_,?_⟩
  ·rintro i σ H' _ ⟨sm,_⟩
   exact SqL.of (sm.at hl (by nofun))
  ·rintro i x σ H1 hx1 ⟨s1,B1,v1,v2,v3,rfl⟩
   rw [List.getElem?_map] at hx1
   obtain ⟨n,en,rfl⟩:=Option.map_eq_some_iff.mp hx1
   have hn:=hn n (List.mem_of_getElem? en)
   have hD1:=hD.same s1
   have hd1:=s1.at hd (by nofun)
   have w1:L (Str.ofString "text ")=cd "text"++[32]:=by decide +kernel
   have w2:L (Str.ofString "pack ")=cd "pack"++[32]:=by decide +kernel
   have w3:(cd "text").length=4:=by decide +kernel
   have w4:(cd "pack").length=4:=by decide +kernel
   have nl:=hn.2.1
   simp only [length_cons,length_nil,Nat.reduceAdd,if_false,Bool.not_true,Bool.false_eq_true,set_cons_zero,set_cons_succ,gS,ZE,tC,zG,zf,Zz,zP,YH,tOp,Zx,ZL,Zbv,tFn,tB2,Y5,L_T,ZqU,ZiY,tB,w1]
   have hv:z6 (txK kept) (.inr (T n))=(zC kept n).map fun x=>V.str (T x):=Zaa n kept
   refine ⟨d,_,rfl,hv▸DGet.k (k:=.inr (T n)) hd1,?_⟩
   cases hy:zC kept n with
   |none=>
    refine ⟨false,rfl,Zd0 ⟨by simp only [length_append,length_cons,length_nil];omega,?_⟩⟩
    simp only [Ys,L_T]
    rw [append_assoc,List.singleton_append]
    refine ⟨t,kept,hD1,hk,by simp only [length_append,length_cons];omega,B1.b1,B1.b2,B1.n12,ZiA hn hy ⟨⟨by decide,by decide⟩,fun H2 p p2 sd hp h2 h3=>⟨by omega,fun r hr=>⟨by omega,fun r2 hr2=>?_⟩⟩⟩⟩
    have s3:Zw H2 (upd (upd H2 r (HO.tup [V.bl true,V.bl false,V.bl false])) r2 (HO.tup [V.str (Str.ofString "refused"),V.ref r])):=(Zw.updN hr).trans (Zw.updN hr2)
    exact ⟨Znv (s3 _ _ h3) (s3 _ _ h2) Zj ((Zw.updN hr2) _ _ Zj),(s1.trans sd.same).trans s3.toN,(B1.sd sd).same s3,_,_,_,rfl⟩
   |some y=>
    have yl:=hx n y hy
    rw [hy] at hv
    refine ⟨true,rfl,Zht ?_⟩
    refine zI (fun σ' H'=>ZS H H'/\B3 Zd Zg Zt H'/\σ'=[some (V.ref o),some (V.ref d),some (V.ref l),some (V.str (T n)),some (V.str (T (LO.Z5 y))),some (V.int (LO.Zdg y))]) ?_ ?_
    ·simp only [set_cons_zero,set_cons_succ,gS,ZE,Z3,Zz,Zx,ZL,tFn,ZoW,ZhY,ZpX,Zbr]
     refine ⟨d,_,rfl,hv▸DGet.k (k:=.inr (T n)) hd1,?_⟩
     simp only [JB,L_T]
     exact ⟨yl,B1.b3,fun p2 H2 s2 se2 b3 hp2 h2=>⟨p2,_,rfl,SqT.of h2,rfl,_,_,rfl,_,_,rfl,rfl,s1.trans s2,B1.last se2 b3,rfl⟩⟩
    rintro _ H2 ⟨s2,B2,rfl⟩
    have hD2:=hD.same s2
    have hd2:=s2.at hd (by nofun)
    refine zI (fun σ' H'=>ZS H H'/\B3 Zd Zg Zt H'/\σ'=[some (V.ref o),some (V.ref d),some (V.ref l),some (V.str (T n)),some (V.str (T (LO.Z5 y))),some (V.int (LO.Zdg y))]) ?_ ?_
    ·simp only [and_true,if_true,Bool.not_false,gS,ZE,tC,zf,zP,YH,tOp,Zx,ZL,tFn,Zhh,trV,Y5,L_T,Zbr,w1]
     refine ⟨by simp only [length_append,length_cons,length_nil];omega,?_⟩
     simp only [Ys,L_T]
     rw [append_assoc,List.singleton_append]
     refine ⟨t,kept,hD2,hk,by simp only [length_append,length_cons];omega,B2.b1,B2.b2,B2.n12,Zk6 hn hy fun H3 p3 sd hp3 h3=>?_⟩
     rw [ZcH hD2.2] at sd
     refine ⟨d,_,rfl,hv▸DGet.k (k:=.inr (T n)) (sd.same.at hd2 (by nofun)),?_⟩
     simp only [zz]
     refine ⟨_,h3,?_⟩
     rw [decide_eq_true rfl]
     exact Zd0 ⟨s2.trans sd.same,B2.sd sd⟩
    rintro _ H3 ⟨s3,B4,rfl⟩
    have hD3:=hD.same s3
    have hd3:=s3.at hd (by nofun)
    simp only [if_true,Bool.not_false,gS,ZE,tC,zf,zP,YH,tOp,Zx,ZL,tFn,Zhh,trV,Y5,L_T,w2]
    refine ⟨by simp only [length_append,length_cons,length_nil];omega,?_⟩
    simp only [Ys,L_T]
    rw [append_assoc,List.singleton_append]
    refine ⟨t,kept,hD3,hk,by simp only [length_append,length_cons];omega,B4.b1,B4.b2,B4.n12,Zld hn hy yl fun rs gr fr H4 p4 sd hp4 h4=>?_⟩
    rw [ZcH hD3.2] at sd
    have ll:=LO.Zb0 y
    have hh:=LO.Zef y
    simp only [zM,zz,L_T]
    refine ⟨by omega,by omega,by omega,fun rs' gr' fr'=>⟨_,h4,?_⟩⟩
    rw [ZaG gr' gr (fr'.trans fr.symm),L_T,decide_eq_true rfl]
    exact Zd0 ⟨s3.trans sd.same,B4.sd sd,_,_,_,rfl⟩
  ·rintro σ H' ⟨sm,B',v1,v2,v3,rfl⟩
   simp only [tC,zP]
   exact q H' sm B'
def Jf (H H':Hp):Prop:=∀b u,H b=some u->H' b≠none/\((∀ps,u≠ .tbl ps)->(∀kv,u≠ .dK kv)->H' b=some u)
section
variable {H H1 H2:Hp}
theorem Jf.at (a:Jf H H1) {b:Addr} {u:HO} (h:H b=some u) (n:∀ps,u≠ .tbl ps) (m:∀kv,u≠ .dK kv):H1 b=some u:=(a b u h).2 n m
theorem ZS.toK (a:ZS H H1):Jf H H1:=fun b u h=>⟨(a b u h).1,fun n _=>(a b u h).2 n⟩
theorem Jf.trans (a:Jf H H1) (b:Jf H1 H2):Jf H H2:=fun c u h=>by
 refine ⟨fun z=>?_,fun n m=>b.at (a.at h n m) n m⟩
 cases q:H1 c with
 |none=>exact (a c u h).1 q
 |some v=>exact (b c v q).1 z
theorem Jf.dk {t:Addr} {kvs kvs':List (Key×V)} (ht:H t=some (.dK kvs)):Jf H (upd H t (.dK kvs')):=fun b u h=>by
 by_cases e:b=t
 ·subst e
  rw [Zj]
  rw [ht] at h
  exact ⟨by simp,fun _ m=>absurd (Option.some.inj h).symm (m _)⟩
 ·rw [Zn e]
  exact ⟨by rw [h];simp,fun _ _=>h⟩
theorem Jf.seq {K:PySem.W.Frag} {a:Addr} {xs:List V} (e:Jf H H1) (h:SqL K H a xs):SqL K H1 a xs:=by
 rcases h with (h|⟨o,h⟩)|h
 ·exact .inl (.inl (e.at h (by nofun) (by nofun)))
 ·exact .inl (.inr ⟨o,e.at h (by nofun) (by nofun)⟩)
 ·exact .inr h
end
def Zo4 (wl:List Nat) (dv:V) (k:Nat):Prop:=wl.length<=4000/\((k=3/\∃h rs m,Pk wl h rs/\(flat rs).length<=62/\(∀c∈flat rs,c≠10)/\m<=(flat rs).length/\LO.rd (LO.rsL (flat rs) h) m=some h/\(m≠(flat rs).length->dv=.non)/\(m=(flat rs).length->dv=.str (T (LO.Zde (LO.rsL (flat rs) h) (flat rs).length))))\/(k=0/\(∀h rs,¬Pk wl h rs)/\dv=.non))
def Zrt (n wl:List Nat) (dv:V) (k:Nat):Prop:=n.length<=9/\32∉n/\wl.length<=4000/\((YI n/\Zo4 wl dv k)\/(¬YI n/\dv=.non/\k=1))
theorem Zlb {kept:YE} {n wl:List Nat} {dv:V} {k:Nat} {Qs:YE->List Nat->Prop} {Qr:Nat->Prop} (h:Zrt n wl dv k) (q1:dv=.non->k≠2/\k<4->Qr k) (q2:∀x:List Nat,dv=.str (T x)->x.length<=62->YI n->Qs (Zcc kept n x) (cd "ok")):JR kept (cd "load"++32::(n++32::wl)) Qs Qr:=by
 obtain ⟨nl,nb,wll,h⟩:=h
 have gr:=ZkU (x:=wl) nb
 rw [jn2,append_assoc,cons_append] at gr
 refine ⟨fun w=>absurd ⟨_,_,gr⟩ w,fun i ws g=>?_⟩
 obtain ⟨rfl,rfl⟩:=g.uniq gr
 rcases h with ⟨hn,_,h⟩|⟨hn,e1,rfl⟩
 ·refine ⟨fun w=>absurd ⟨fun _=>hn,fun z=>absurd (.inr rfl) z⟩ w,fun _=>.inr (.inr (.inr ⟨rfl,rfl,?_,?_⟩))⟩
  ·show (∀h rs,¬Pk wl h rs)->Qr 0
   intro w
   rcases h with ⟨_,h,rs,m,pk,_⟩|⟨rfl,_,e⟩
   ·exact absurd pk (w h rs)
   ·exact q1 e ⟨by decide,by decide⟩
  ·show ∀h rs,Pk wl h rs->_
   intro h' rs' pk'
   rcases h with ⟨rfl,h,rs,m,pk,fl,f10,ml,em,d1,d2⟩|⟨rfl,w,e⟩
   ·obtain ⟨rfl,rfl⟩:=Zk8 pk pk'
    refine ⟨fl,f10,fun m' hm' em'=>?_⟩
    cases LO.Zcx em' em
    refine ⟨fun z=>q1 (d1 z) ⟨by decide,by decide⟩,fun z=>q2 _ (d2 z) ?_ hn⟩
    rw [<-z,LO.ZbB em]
    omega
   ·exact absurd pk' (w _ _)
 ·refine ⟨fun _=>q1 e1 ⟨by decide,by decide⟩,fun w=>absurd (w.1 (.inr rfl)) hn⟩
def bl3 (k:Nat):HO:=.tup [.bl (decide (k=1)),.bl (decide (k=0)),.bl (decide (k=3))]
def ZaX (K:PySem.W.Frag) (CL C:Addr) (tb3 tb1 tb2:Addr):Sp:=fun vs H Q _=>match vs with
 |[.ref o,.ref d,.ref l,.str z,.int _]=>∃t kept,∃ns:List (List Nat),Y8 C H o t kept/\H d=some (.dK (txK kept))/\d≠t/\kept.length<=900/\(∀n x,zC kept n=some x->x.length<=62)/\H l=some (.lst (ns.map fun n=>V.str (T n)))/\ns.length=2/\(∀n∈ns,YI n)/\(L z).length<=62/\(∀c∈L z,c≠10)/\B3 tb1 tb2 tb3 H/\∀H' kept',Jf H H'->Y8 C H' o t kept'->H' d=some (.dK (txK kept'))->kept'.length<=kept.length+1->(∀n x,zC kept' n=some x->x.length<=62)->B3 tb1 tb2 tb3 H'->Q (.bl true) H'
 |_=>False
theorem ZkO {f:Addr} {fd:FuncData} (F:Fun K "_law_load" "_law_load" Za1 f fd) (B:Bn mg) {Zt Zd Zg:Addr} {c:Cs} (ER:Er K mg c) {Zp Zh Zi:Addr} (TP:Tp K w.params mg Zp Zh Zi) {Zc Zm:Addr} (CF:Cf K Zc Zm) (GC:Gc mg) (qR:Fn P w K mg base 1 "_law_stream" JC (YF K)) (Za6:Fn P w K mg base 4 "_law_last" Zba (JB K Zt)) (Yl:Fn P w K mg base 1 "_law_written" qg (zM K)) (ZeB:Fn P w K mg base 2 "_law_read" ZbI (ZaT K)) (ql:Fn P w K mg base 9 "_law_said" Zao (Ys K Zc Zm Zd Zg)) (zN:Fn P w K mg base 1 "_law_is_said" qd (zz K)) (ZgW:Fn P w K mg base 2 "_law_bad" Zdb (ZbH K)):Z4 P w K mg base CX0 10 f fd ZbZ (ZaX K Zc Zm Zt Zd Zg):=by
 refine F.ok za (fun vs H Q E h=>?_) (fun cdv A outer s H vs Q E hr h=>?_)<;>unfold ZaX at h<;>split at h<;>first|exact h.elim|skip
 ·rfl
 ·rename_i o d l z cell
  obtain ⟨t,kept,ns,hD,hd,dt,hk,hx,hl,n2,hn,zl,z10,BB,q⟩:=h
  refine ⟨_,(Ze (ZK (Zu (i:=5) za.nd rfl (by first|exact Or.inl rfl|exact Or.inr rfl) (zk qR (hr.mono (by decide)) (Zb (qv 4) (Zb Zl Zf)))))
   (Ze (ZK (Zpt (zk Za6 (hr.mono (by decide)) (Zb (qv 3) Zf)) (Zjj (K:=K) (n:=2) rfl rfl (Zbd (zb (i:=6) za.nd rfl (by first|exact Or.inl rfl|exact Or.inr rfl)) (Zbd (zb (i:=7) za.nd rfl (by first|exact Or.inl rfl|exact Or.inr rfl)) ZgH)))))
   (Ze (ZK (zd (Z7 Zd4 (Zv YQ (ZX (Z1 (K:=K) rfl) (qv 5) Zl (fun _ _=>rfl)) Zl) Zl) (Zo (Zu (i:=7) za.nd rfl (by first|exact Or.inl rfl|exact Or.inr rfl) (Zv YQ (ZX (Z1 (K:=K) rfl) (qv 5) Zl (fun _ _=>rfl)) (Zv ZN (ZH (zr (K:=K) rfl) (by rfl) B.len zo (Zb (qv 6) Zf)) Zl)))) ZM))
   (Ze (ZK (zd (Z7 Zc7 (Zv YQ (ZX (Z1 (K:=K) rfl) (qv 5) Zl (fun _ _=>rfl)) Zl) Zl) (Zo (Zu (i:=6) za.nd rfl (by first|exact Or.inl rfl|exact Or.inr rfl) (qv 3))) ZM))
   (Ze (ZK (Zu (i:=8) za.nd rfl (by first|exact Or.inl rfl|exact Or.inr rfl) (zk Yl (hr.mono (by decide)) (Zb (qv 6) (Zb (qv 7) Zf)))))
   (Ze (ZK (Zu (i:=9) za.nd rfl (by first|exact Or.inl rfl|exact Or.inr rfl) (zk ZeB (hr.mono (by decide)) (Zb (qv 6) (Zb (qv 7) Zf)))))
   (Ze (ZK (Zu (i:=10) za.nd rfl (by first|exact Or.inl rfl|exact Or.inr rfl) (Yv (Zb qY (Zb qY (Zb qY Zf))))))
   (Ze (ZK (zd (Z7 Zc7 (Zv YQ (ZX (Z1 (K:=K) rfl) (qv 5) Zl (fun _ _=>rfl)) Zl) Zl) (Ze (Zu (i:=8) za.nd rfl (by first|exact Or.inl rfl|exact Or.inr rfl) (zk ZgW (hr.mono (by decide)) (Zb (qv 6) (Zb (qv 7) (Zb (ZX (Z1 (K:=K) rfl) (qv 5) Zl (fun _ _=>rfl)) (Zb (ZX (Z1 (K:=K) rfl) (qv 5) Zl (fun _ _=>rfl)) Zf))))))
   (Ze (Zu (i:=9) za.nd rfl (by first|exact Or.inl rfl|exact Or.inr rfl) ZbU)
   (Zo (Zu (i:=10) za.nd rfl (by first|exact Or.inl rfl|exact Or.inr rfl) (Yv (Zb qY (Zb qY (Zb qY Zf)))))))) ZM))
   (Ze (ZK (Zu (i:=11) za.nd rfl (by first|exact Or.inl rfl|exact Or.inr rfl) (ZX (Z1 (K:=K) rfl) (qv 2) (Zv YQ (ZX (Z1 (K:=K) rfl) (qv 5) Zl (fun _ _=>rfl)) Zl) (fun _ _=>rfl))))
   (Ze (ZK (zd (Z7 Zc7 (Zv YQ (ZX (Z1 (K:=K) rfl) (qv 5) Zl (fun _ _=>rfl)) Zl) Zl) (Ze (Zu (i:=11) za.nd rfl (by first|exact Or.inl rfl|exact Or.inr rfl) (ZX (Z1 (K:=K) rfl) (Yv (Zb Zs (Zb Zs (Zb Zs (Zb Zs (Zb Zs (Zb (Zv ZN (qv 11) Zs) Zf))))))) (Zv YQ (ZX (Z1 (K:=K) rfl) (qv 5) Zl (fun _ _=>rfl)) Zl) (fun _ _=>rfl)))
   (Ze (Zu (i:=9) za.nd rfl (by first|exact Or.inl rfl|exact Or.inr rfl) ZbU)
   (Zo (Zu (i:=10) za.nd rfl (by first|exact Or.inl rfl|exact Or.inr rfl) (Yv (Zb qY (Zb qY (Zb qY Zf)))))))) ZM))
   (Ze (ZK (Zu (i:=12) za.nd rfl (by first|exact Or.inl rfl|exact Or.inr rfl) (zk ql (hr.mono (by decide)) (Zb (qv 0) (Zb (Zv ZN (Zv ZN (Zv ZN Zs (qv 11)) Zs) (qv 8)) Zf)))))
   (Ze (zd (Z7 Zx5 (qv 9) ZbU) (Zo (ZI (ZdT (Zz0 (K:=K) rfl hr) (qv 12) (Yv (Zb Zs (Zb (qv 10) Zf)))))) ZM)
   (Ze (Zei (Y7 hr) (qv 1) (qv 11) (qv 9) rfl)
   (Zo (ZI (zk zN (hr.mono (by decide)) (Zb (qv 12) (Zb Zs Zf)))))))))))))))))),?_⟩
  have hsz:sizeLine=16777216:=sizeLine_eq
  simp only [L2.ZR,length_cons,length_nil,replicate_succ,replicate_zero,map_cons,map_nil,cons_append,nil_append,Nat.reduceAdd,Nat.reduceSub,zG]
  refine zI (fun σ' H'=>Zw H H'/\∃p,∃is:List Int,H' p=some (.lst (is.map V.int))/\is.length=12/\σ'=[some (V.ref o),some (V.ref d),some (V.ref l),some (V.str z),some (V.int cell),some (V.ref p),none,none,none,none,none,none,none]) ?_ ?_
  ·simp only [Int.reduceLE,true_and,set_cons_zero,set_cons_succ,gS,ZE,tC,Z3,Zz,Zx,ZL,tFn,YF]
   exact fun p is _ li H' s' h'=>⟨s',p,is,h',li,rfl⟩
  rintro _ H1 ⟨s1,p,is,hp,il,rfl⟩
  have B1:=BB.same s1
  refine zI (fun σ' H'=>ZS H1 H'/\B3 Zd Zg Zt H'/\σ'=[some (V.ref o),some (V.ref d),some (V.ref l),some (V.str z),some (V.int cell),some (V.ref p),some (V.str (T (LO.Z5 (L z)))),some (V.int (LO.Zdg (L z))),none,none,none,none,none]) ?_ ?_
  ·simp only [set_cons_zero,set_cons_succ,gS,ZE,Z3,Zz,Zx,ZL,tFn,ZoW,ZhY,ZpX,JB]
   exact ⟨zl,B1.b3,fun p2 H2 s2 se2 b3 hp2 h2=>⟨p2,_,rfl,SqT.of h2,rfl,_,_,rfl,_,_,rfl,rfl,s2,B1.last se2 b3,rfl⟩⟩
  rintro _ H2 ⟨s12,B2,rfl⟩
  replace hp:=s12.at hp (by nofun)
  have s2:ZS H H2:=s1.toN.trans s12
  clear B1 s12
  have ia:∀k:Nat,k<12->∃v,atI (is.map V.int) (k:Int)=some (V.int v):=fun k hk=>by
   obtain ⟨v,_,e⟩:=ZdR V.int is (r:=(k:Int)) (by omega) (by omega)
   exact ⟨v,e⟩
  obtain ⟨v0,a0⟩:=ia 0 (by decide)
  obtain ⟨v1,a1⟩:=ia 1 (by decide)
  obtain ⟨v2,a2⟩:=ia 2 (by decide)
  obtain ⟨v3,a3⟩:=ia 3 (by decide)
  obtain ⟨v4,a4⟩:=ia 4 (by decide)
  obtain ⟨v5,a5⟩:=ia 5 (by decide)
  obtain ⟨v6,a6⟩:=ia 6 (by decide)
  obtain ⟨v7,a7⟩:=ia 7 (by decide)
  clear ia
  have ll:=LO.Zb0 (L z)
  have hh:=LO.Zef (L z)
  refine zI (fun σ' H'=>H'=H2/\∃h:Nat,h<=(L z).length/\σ'=[some (V.ref o),some (V.ref d),some (V.ref l),some (V.str z),some (V.int cell),some (V.ref p),some (V.str (T (LO.Z5 (L z)))),some (V.int (h:Int)),none,none,none,none,none]) ?_ ?_
  ·simp only [true_and,decide_eq_true_eq,set_cons_zero,set_cons_succ,gS,ZE,tC,zf,Z3,Zz,YH,tOp,tCB,Zx,ZL,tB2,Y5,JZ,Jg,ixV,Jz,L_T,ZeP,gtV]
   refine ⟨_,_,.inl (SqL.of hp),a0,?_⟩
   simp only [Int.reduceLT,true_and]
   refine z7 (fun _=>?_) fun _=>⟨_,hh,rfl⟩
   refine ⟨_,_,.inl (SqL.of hp),a1,?_⟩
   simp only [L2.ZR]
   have m0:0<=v1%(((LO.Z5 (L z)).length:Int)+1):=Int.emod_nonneg _ (by omega)
   have m1:v1%(((LO.Z5 (L z)).length:Int)+1)<((LO.Z5 (L z)).length:Int)+1:=Int.emod_lt_of_pos _ (by omega)
   exact ⟨by omega,by omega,(v1%(((LO.Z5 (L z)).length:Int)+1)).toNat,by omega,by rw [Int.toNat_of_nonneg m0]⟩
  rintro _ _ ⟨rfl,h,hz,rfl⟩
  rename_i H2
  refine zI (fun σ' H'=>H'=H2/\∃x:List Nat,x.length=(L z).length/\(∀c∈x,c≠10)/\σ'=[some (V.ref o),some (V.ref d),some (V.ref l),some (V.str z),some (V.int cell),some (V.ref p),some (V.str (T x)),some (V.int (h:Int)),none,none,none,none,none]) ?_ ?_
  ·simp only [true_and,decide_eq_true_eq,set_cons_zero,set_cons_succ,gS,ZE,tC,zf,Z3,Zz,YH,tOp,tB2,JZ,eqR,sc,ixV,ZeP]
   refine ⟨_,_,.inl (SqL.of hp),a0,?_⟩
   simp only [Int.reduceLT,true_and]
   refine z7 (fun _=>⟨L z,rfl,z10,by rw [T_L]⟩) fun _=>⟨_,ll,fun c hc=>z10 c (LO.Zg7 hc),rfl⟩
  rintro _ _ ⟨rfl,x,xl,x10,rfl⟩
  rename_i H2
  refine zI (fun σ' H'=>H'=H2/\∃rs,YS rs/\flat rs=x/\σ'=[some (V.ref o),some (V.ref d),some (V.ref l),some (V.str z),some (V.int cell),some (V.ref p),some (V.str (T x)),some (V.int (h:Int)),some (V.str (T (ZJ (h:Int)++32::wr rs))),none,none,none,none]) ?_ ?_
  ·simp only [true_and,set_cons_zero,set_cons_succ,gS,ZE,Z3,Zz,Zx,ZL,tFn,L_T,zM,L_T]
   exact ⟨by omega,by omega,by omega,fun rs g f=>⟨rs,g,f,rfl⟩⟩
  rintro _ _ ⟨rfl,rs,gr,rfl,rfl⟩
  rename_i H2
  refine zI (fun σ' H'=>Zw H2 H'/\∃dv,Zo4 (ZJ (h:Int)++32::wr rs) dv 3/\σ'=[some (V.ref o),some (V.ref d),some (V.ref l),some (V.str z),some (V.int cell),some (V.ref p),some (V.str (T (flat rs))),some (V.int (h:Int)),some (V.str (T (ZJ (h:Int)++32::wr rs))),some dv,none,none,none]) ?_ ?_
  ·have wll:(ZJ (h:Int)++32::wr rs).length<=4000:=by
    have rl:=Zb6 gr
    have wl:=Zfm (rs:=rs) fun r hr=>qe hr (by omega)
    obtain ⟨f1,f2,f3,f4,f5⟩:=Zg2 h (by omega)
    rw [length_append,length_cons]
    omega
   have pk:Pk (ZJ (h:Int)++32::wr rs) h rs:=⟨gr,by omega,by omega,rfl⟩
   simp only [set_cons_zero,set_cons_succ,gS,ZE,Z3,Zz,Zx,ZL,tFn,L_T,ZaT,L_T]
   refine ⟨by omega,x10,⟨by omega,by omega⟩,fun m hm em H' s'=>?_⟩
   rw [Int.toNat_natCast] at em ⊢
   refine ⟨fun e=>⟨s',_,⟨wll,.inl ⟨rfl,h,rs,m,pk,by omega,x10,hm,em,fun _=>rfl,fun w=>absurd w e⟩⟩,rfl⟩,fun e=>⟨s',_,⟨wll,.inl ⟨rfl,h,rs,m,pk,by omega,x10,hm,em,fun w=>absurd e w,fun _=>rfl⟩⟩,rfl⟩⟩
  rintro _ H3 ⟨s3,dv,lr,rfl⟩
  refine zI (fun σ' H'=>Zw H2 H'/\∃pr,H' pr=some (bl3 3)/\σ'=[some (V.ref o),some (V.ref d),some (V.ref l),some (V.str z),some (V.int cell),some (V.ref p),some (V.str (T (flat rs))),some (V.int (h:Int)),some (V.str (T (ZJ (h:Int)++32::wr rs))),some dv,some (V.ref pr),none,none]) ?_ ?_
  ·simp only [length_cons,length_nil,Nat.reduceAdd,set_cons_zero,set_cons_succ,tC,Z3,Zz,Zx,ZL,Zbv]
   exact ⟨by omega,fun pr hpr=>⟨s3.trans (Zw.updN hpr),pr,Zj,rfl⟩⟩
  rintro _ H4 ⟨s4,pr,hpr,rfl⟩
  refine zI (fun σ' H'=>Zw H2 H'/\∃u1 u2,∃wl dv k pr,Zo4 wl dv k/\H' pr=some (bl3 k)/\σ'=[some (V.ref o),some (V.ref d),some (V.ref l),some (V.str z),some (V.int cell),some (V.ref p),u1,u2,some (V.str (T wl)),some dv,some (V.ref pr),none,none]) ?_ ?_
  ·simp only [length_cons,length_nil,Nat.reduceAdd,decide_eq_true_eq,set_cons_zero,set_cons_succ,gS,ZE,tC,zG,zf,Z3,Zz,YH,tOp,Zx,ZL,Zbv,tFn,tB2,JZ,eqR,sc,ixV,ZeP]
   refine ⟨_,_,.inl (SqL.of (s4 _ _ hp)),a2,?_⟩
   simp only [Int.reduceLT,true_and]
   refine z7 (fun _=>?_) fun _=>⟨s4,_,_,_,dv,3,pr,lr,hpr,rfl⟩
   refine ⟨_,_,.inl (SqL.of (s4 _ _ hp)),a3,_,_,.inl (SqL.of (s4 _ _ hp)),a4,?_⟩
   simp only [L_T,ZbH,L_T]
   refine ⟨by omega,by omega,by omega,fun wl wll np H5 s5=>⟨by omega,fun pr hpr=>⟨(s4.trans s5).trans (Zw.updN hpr),_,_,wl,.non,0,pr,⟨wll,.inr ⟨rfl,np,rfl⟩⟩,Zj,rfl⟩⟩⟩
  rintro _ H5 ⟨s5,u1,u2,wl,dv,k,pr,lr,hpr,rfl⟩
  have s25:=s2.trans s5.toN
  have hl5:=s25.at hl (by nofun)
  refine zI (fun σ' H'=>H'=H5/\∃n,YI n/\σ'=[some (V.ref o),some (V.ref d),some (V.ref l),some (V.str z),some (V.int cell),some (V.ref p),u1,u2,some (V.str (T wl)),some dv,some (V.ref pr),some (V.str (T n)),none]) ?_ ?_
  ·have m0:0<=v5%2:=Int.emod_nonneg _ (by decide)
   have m1:v5%2<2:=Int.emod_lt_of_pos _ (by decide)
   obtain ⟨n,hn1,e⟩:=ZdR (fun n=>V.str (T n)) ns m0 (by omega)
   simp only [true_and,set_cons_zero,set_cons_succ,gS,ZE,tC,Z3,Zz,tOp,JZ,ixV,ZeP]
   refine ⟨_,_,.inl (SqL.of (s5 _ _ hp)),a5,?_⟩
   simp only [Int.reduceLT,true_and]
   exact ⟨_,_,.inl (SqL.of hl5),e,n,hn n hn1,rfl⟩
  rintro _ _ ⟨rfl,n,nn,rfl⟩
  rename_i H5
  refine zI (fun σ' H'=>Zw H5 H'/\∃n dv k pr,Zrt n wl dv k/\H' pr=some (bl3 k)/\σ'=[some (V.ref o),some (V.ref d),some (V.ref l),some (V.str z),some (V.int cell),some (V.ref p),u1,u2,some (V.str (T wl)),some dv,some (V.ref pr),some (V.str (T n)),none]) ?_ ?_
  ·have m0:0<=v7%6:=Int.emod_nonneg _ (by decide)
   have m1:v7%6<6:=Int.emod_lt_of_pos _ (by decide)
   simp only [length_cons,length_nil,Nat.reduceAdd,decide_eq_true_eq,set_cons_zero,set_cons_succ,gS,ZE,tC,zG,zf,Z3,Zz,YH,tOp,Zx,ZL,Zbv,tB2,Y5,JZ,eqR,sc,ixV,L_T,ZeP]
   refine ⟨_,_,.inl (SqL.of (s5 _ _ hp)),a6,?_⟩
   simp only [Int.reduceLT,true_and]
   refine z7 (fun _=>?_) fun _=>⟨Zw.refl _,n,dv,k,pr,⟨by have:=nn.2.1;omega,nn.noB,lr.1,.inl ⟨nn,lr⟩⟩,hpr,rfl⟩
   have eZ:L (Str.ofString "Z")=[90]:=by decide +kernel
   have nl:=nn.2.1
   obtain ⟨v,hv,ea⟩:=Zom (l:=[[],[65],[97,98,99,100,101,102,103,104,105],[97,49],[97,46],n++[90]]) m0 m1
   have et:[V.str (Str.ofString ""),V.str (Str.ofString "A"),V.str (Str.ofString "abcdefghi"),V.str (Str.ofString "a1"),V.str (Str.ofString "a."),V.str (T (n++[90]))]=[[],[65],[97,98,99,100,101,102,103,104,105],[97,49],[97,46],n++[90]].map fun x=>V.str (T x):=by
    rw [show Str.ofString ""=T [] by decide +kernel,show Str.ofString "A"=T [65] by decide +kernel,show Str.ofString "abcdefghi"=T [97,98,99,100,101,102,103,104,105] by decide +kernel,show Str.ofString "a1"=T [97,49] by decide +kernel,show Str.ofString "a."=T [97,46] by decide +kernel]
    rfl
   rw [eZ,et]
   refine ⟨by show n.length+1<=_;omega,by omega,fun r hr=>⟨_,_,.inl (SqL.of ((Zw.updN hr) _ _ (s5 _ _ hp))),a7,?_⟩⟩
   simp only [map_cons,map_nil,Int.reduceLT,true_and]
   refine ⟨_,_,.inr (SqT.of Zj),ea,by omega,fun r2 hr2=>⟨(Zw.updN hr).trans (Zw.updN hr2),v,.non,1,r2,⟨?_,?_,lr.1,.inr ⟨?_,rfl,rfl⟩⟩,Zj,rfl⟩⟩
   ·simp only [mem_cons,List.not_mem_nil,or_false] at hv
    rcases hv with rfl|rfl|rfl|rfl|rfl|rfl<;>simp only [length_append,length_cons,length_nil]<;>omega
   ·simp only [mem_cons,List.not_mem_nil,or_false] at hv
    rcases hv with rfl|rfl|rfl|rfl|rfl|rfl<;>first|decide|skip
    intro w
    rcases mem_append.mp w with w|w
    ·exact nn.noB w
    ·cases mem_singleton.mp w
   ·simp only [mem_cons,List.not_mem_nil,or_false] at hv
    rcases hv with rfl|rfl|rfl|rfl|rfl|rfl<;>first|(unfold YI;decide)|skip
    intro w
    have:=w.2.2 90 (by simp)
    omega
  rintro _ H6 ⟨s6,n,dv,k,pr,ln,hpr,rfl⟩
  have s26:=s25.trans s6.toN
  have B6:=B2.same (s5.trans s6)
  have hD6:=hD.same s26
  have hd6:=s26.at hd (by nofun)
  refine zI (fun σ' H'=>∃p2,(dv=.non/\SD Zd Zg H6 H'/\(∃p3,H' p3=some (bl3 k)/\H' p2=some (.tup [.str (Str.ofString "refused"),.ref p3]))\/∃x:List Nat,dv=.str (T x)/\x.length<=62/\YI n/\SD Zd Zg (upd H6 t (.dK (txK (Zcc kept n x)))) H'/\H' p2=some (.tup [.str (Str.ofString "said"),.str (T (cd "ok"))]))/\σ'=[some (V.ref o),some (V.ref d),some (V.ref l),some (V.str z),some (V.int cell),some (V.ref p),u1,u2,some (V.str (T wl)),some dv,some (V.ref pr),some (V.str (T n)),some (V.ref p2)]) ?_ ?_
  ·have w1:L (Str.ofString "load ")=cd "load"++[32]:=by decide +kernel
   have w2:L (Str.ofString " ")=[32]:=by decide +kernel
   have w3:(cd "load").length=4:=by decide +kernel
   simp only [length_cons,length_nil,Nat.reduceAdd,set_cons_zero,set_cons_succ,gS,ZE,tC,Z3,Zz,tOp,Zx,ZL,tFn,Y5,L_T,w1,w2]
   obtain ⟨nl,_,wll,_⟩:=id ln
   have er:cd "load"++[32]++n++[32]++wl=cd "load"++32::(n++32::wl):=by simp
   rw [er]
   refine ⟨by simp only [length_append,length_cons,length_nil];omega,by simp only [length_append,length_cons,length_nil];omega,by simp only [length_append,length_cons,length_nil];omega,?_⟩
   simp only [Ys,L_T]
   refine ⟨t,kept,hD6,by omega,by simp only [length_append,length_cons];omega,B6.b1,B6.b2,B6.n12,Zlb ln (fun e kk=>⟨kk,fun H7 p2 p3 sd _ h3 h2=>⟨p2,.inl ⟨e,sd,p3,h3,h2⟩,rfl⟩⟩) fun x e xl nn H7 p2 sd _ h2=>⟨p2,.inr ⟨x,e,xl,nn,sd,h2⟩,rfl⟩⟩
  rintro _ H7 ⟨p2,hc,rfl⟩
  rcases hc with ⟨rfl,sd,p3,h3,h2⟩|⟨x,rfl,xl,nn,sd,h2⟩
  ·simp only [length_cons,length_nil,Nat.reduceAdd,if_true,Bool.not_false,decide_true,gS,ZE,tC,zG,zf,zP,YH,tOp,Zx,ZL,Zbv,tFn,tB2,isV,ZfL,ZiY]
   refine ⟨by omega,fun r hr=>⟨Znv (a:=decide (k=1)) (b:=decide (k=0)) (c:=decide (k=3)) ((Zw.updN hr) _ _ h2) ((Zw.updN hr) _ _ h3) Zj ((Zw.updN hr) _ _ (sd.same.at hpr (by nofun))),?_⟩⟩
   have s8:=(s26.trans sd.same).trans (Zw.updN (o:=HO.tup [V.str (Str.ofString "refused"),V.ref pr]) hr).toN
   exact q _ kept (ZS.toK s8) (hD.same s8) (s8.at hd (by nofun)) (by omega) hx ((B6.sd sd).same (Zw.updN hr))
  ·simp only [length_cons,length_nil,Nat.reduceAdd,decide_eq_true_eq,Bool.not_false,gS,ZE,tC,zG,zf,zP,YH,tOp,Zx,ZL,Zbv,tFn,tB2,isV,ZfL,ZiY]
   have hd7:=sd.same.at ((Zn dt).trans hd6) (by nofun)
   have hD7:=hD6.put sd.same
   refine z7 (fun w=>by cases w) fun _=>⟨d,_,rfl,ZkK.k (k:=.inr (T n)) hd7 (by unfold txK;rw [length_map];omega),?_⟩
   rw [Zd9]
   simp only [zz]
   refine ⟨_,(Zn (Zcm h2 hd7 (by intro z;cases z))).trans h2,?_⟩
   rw [L_T,decide_eq_true (show cd "ok"=L (Str.ofString "ok") from rfl)]
   obtain ⟨⟨dx,ho⟩,ht⟩:=hD7
   refine q _ (Zcc kept n x) (((ZS.toK s26).trans (Jf.dk hD6.2)).trans ((ZS.toK sd.same).trans (Jf.dk hd7))) ⟨⟨dx,(Zn (Zcm ho hd7 (by intro z;cases z))).trans ho⟩,(Zn (Ne.symm dt)).trans ht⟩ Zj (ZmL kept n x) (fun m y e=>?_) (((B6.dk hD6.2).sd sd).dk hd7)
   rw [Zfb] at e
   split at e
   ·cases Option.some.inj e
    exact xl
   ·exact hx m y e
def ZgU (K:PySem.W.Frag) (tb1 tb2 tb3:Addr):Sp:=fun vs H Q _=>∃(a:Addr) (ns:List Int),vs=[.ref a]/\SqL K H a (ns.map V.int)/\ns.length<=63/\Zr tb1 H/\ZT tb2 H/\qT tb3 H/\tb1≠tb2/\tb1≠tb3/\tb2≠tb3/\∀H',Q (.bl true) H'
theorem Zwp {f:Addr} {fd:FuncData} (F:Fun K "law" "law" Zdh f fd) (B:Bn mg) {Zd Zg Zt:Addr} {c:Cs} (ER:Er K mg c) {Zp Zh Zi:Addr} (TP:Tp K w.params mg Zp Zh Zi) {Zc Zm:Addr} (CF:Cf K Zc Zm) (GC:Gc mg) (Je:Fn P w K mg base 1 "_law_cell_at" JW (Ym K)) (ZaE:Fn P w K mg base 2 "_law_text_by" JV (qw K)) (ql:Fn P w K mg base 9 "_law_said" Zao (Ys K Zc Zm Zd Zg)) (zN:Fn P w K mg base 1 "_law_is_said" qd (zz K)) (Zc0:Fn P w K mg base 1 "_law_name" Zbz (Za7 K)) (Zbf:Fn P w K mg base 10 "_law_all_told" Jq (qH K Zc Zm Zt Zd Zg)) (ZeK:Fn P w K mg base 10 "_law_load" ZbZ (ZaX K Zc Zm Zt Zd Zg)) (MK_Desk:Mkr P w K mg base CX0 1 "Desk" Zm qE [] (qk K Zm)):Z4 P w K mg base CX0 11 f fd ZjP (ZgU K Zd Zg Zt):=by
 refine F.ok Zct (fun vs H Q E h=>?_) (fun cdv A outer s H vs Q E hr h=>?_)
 ·obtain ⟨a,ns,rfl,_⟩:=h
  rfl
 ·obtain ⟨a,ns,rfl,hS,hl,b1,b2,b3,n12,n13,n23,q⟩:=h
  refine ⟨_,(Ze (ZK (Zu (i:=1) Zct.nd rfl (by first|exact Or.inl rfl|exact Or.inr rfl) (Zv YQ (zk Je (hr.mono (by decide)) (Zb (qv 0) (Zb Zl Zf))) (Zv Zzg Zl Zl))))
   (Ze (ZK (Zu (i:=2) Zct.nd rfl (by first|exact Or.inl rfl|exact Or.inr rfl) (ZcC (Zb (zk Zc0 (hr.mono (by decide)) (Zb (qv 1) Zf)) (Zb (zk Zc0 (hr.mono (by decide)) (Zb (Zv ZN (qv 1) Zl) Zf)) Zf)))))
   (Ze (ZK (Zu (i:=3) Zct.nd rfl (by first|exact Or.inl rfl|exact Or.inr rfl) (Zsi MK_Desk (hr.mono (by decide)))))
   (Ze (ZK (Zu (i:=4) Zct.nd rfl (by first|exact Or.inl rfl|exact Or.inr rfl) Zh1))
   (Ze (ZK (zd (Z7 Zd4 (Zv YQ (qv 1) Zl) Zl) (Ze (ZK (Zei (Y7 hr) (qv 4) (ZX (Z1 (K:=K) rfl) (qv 2) Zl (fun _ _=>rfl)) (zk ZaE (hr.mono (by decide)) (Zb (qv 0) (Zb Zl (Zb (zk Je (hr.mono (by decide)) (Zb (qv 0) (Zb Zl Zf))) Zf)))) rfl))
   (Zo (zd (Zcz (Zbk (K:=K) rfl (zk zN (hr.mono (by decide)) (Zb (zk ql (hr.mono (by decide)) (Zb (qv 3) (Zb (Zv ZN (Zv ZN (Zv ZN Zs (ZX (Z1 (K:=K) rfl) (qv 2) Zl (fun _ _=>rfl))) Zs) (Yr (Y7 hr) (qv 4) (ZX (Z1 (K:=K) rfl) (qv 2) Zl (fun _ _=>rfl)) (fun _ _=>rfl))) Zf))) (Zb Zs Zf))))) (Zo (ZI qY)) ZM))) ZM))
   (Ze (Zeb PassesOwn.never rfl B.range (Zb Zl Zf) (zb (i:=5) Zct.nd rfl (by first|exact Or.inl rfl|exact Or.inr rfl)) (Ze (ZK (Zu (i:=6) Zct.nd rfl (by first|exact Or.inl rfl|exact Or.inr rfl) (zk ZaE (hr.mono (by decide)) (Zb (qv 0) (Zb (Zv ZN Zl (Zv ZfR Zl (qv 5))) (Zb (Zv ZN (zk Je (hr.mono (by decide)) (Zb (qv 0) (Zb (Zv ZN Zl (qv 5)) Zf))) (qv 5)) Zf))))))
   (Ze (ZK (zd (Zcz (Zbk (K:=K) rfl (zk ZeK (hr.mono (by decide)) (Zb (qv 3) (Zb (qv 4) (Zb (qv 2) (Zb (qv 6) (Zb (Zv ZN (Zv ZN (Zv ZfR (zk Je (hr.mono (by decide)) (Zb (qv 0) (Zb (Zv ZN Zl (qv 5)) Zf))) Zl) Zl) (qv 5)) Zf)))))))) (Zo (ZI qY)) ZM))
   (Zo (zd (Zcz (Zbk (K:=K) rfl (zk Zbf (hr.mono (by decide)) (Zb (qv 3) (Zb (qv 4) (Zb (qv 2) Zf)))))) (Zo (ZI qY)) ZM)))))
   (Zo (ZI qY)))))))),?_⟩
  have hsz:sizeLine=16777216:=sizeLine_eq
  have ten:∀c∈Zcp,c≠10:=by decide
  have B0:B3 Zd Zg Zt H:=⟨b1,b2,b3,n12,Ne.symm n13,Ne.symm n23⟩
  simp only [L2.ZR,length_cons,length_nil,replicate_succ,replicate_zero,map_cons,map_nil,cons_append,nil_append,Nat.reduceAdd,Nat.reduceSub,zG]
  refine zI (fun σ' H'=>H'=H/\∃n:Int,0<=n/\σ'=[some (V.ref a),some (V.int n),none,none,none,none,none]) ?_ ?_
  ·simp only [Int.reduceLE,true_and,set_cons_zero,set_cons_succ,gS,ZE,tC,Z3,Zz,tOp,Zx,ZL,tFn,JZ,ZeP,Ym]
   exact ⟨ns,hS,⟨by decide,by decide,by decide⟩,by decide,_,Int.emod_nonneg _ (by decide),rfl⟩
  rintro _ _ ⟨rfl,n,n0,rfl⟩
  rename_i H
  refine zI (fun σ' H'=>Zw H H'/\∃p n0 n1,YI n0/\YI n1/\H' p=some (.lst ([n0,n1].map fun n=>V.str (T n)))/\σ'=[some (V.ref a),some (V.int n),some (V.ref p),none,none,none,none]) ?_ ?_
  ·simp only [map_cons,map_nil,length_cons,length_nil,Nat.reduceAdd,set_cons_zero,set_cons_succ,gS,ZE,tC,Z3,Zz,tOp,Zx,ZL,Zh3,tFn,Y5,Za7]
   exact ⟨n0,fun l0 i0=>⟨by omega,fun l1 i1=>⟨by omega,fun p hp=>⟨Zw.updN hp,p,l0,l1,i0,i1,Zj,rfl⟩⟩⟩⟩
  rintro _ H1 ⟨s1,p,m0,m1,i0,i1,hp,rfl⟩
  refine zI (fun σ' H'=>Zw H1 H'/\∃o t,Y8 Zm H' o t []/\σ'=[some (V.ref a),some (V.int n),some (V.ref p),some (V.ref o),none,none,none]) ?_ ?_
  ·simp only [true_and,set_cons_zero,set_cons_succ,Z3,Zz,ZL,ZlD,append_nil,qk]
   intro x dx hx hdx hne
   refine ⟨⟨dx,Zj⟩,fun H2 t kp ht hD=>⟨fun b u h=>kp b u (Zq h hx) ((Zn (Zq h hx)).trans ((Zn (Zq h hdx)).trans h)),x,t,hD,rfl⟩⟩
  rintro _ H2 ⟨s2,o,t,hD,rfl⟩
  refine zI (fun σ' H'=>Zw H2 H'/\∃d,H' d=some (.dK (txK []))/\d≠t/\σ'=[some (V.ref a),some (V.int n),some (V.ref p),some (V.ref o),some (V.ref d),none,none]) ?_ ?_
  ·simp only [set_cons_zero,set_cons_succ,Z3,Zz,ZiS]
   exact fun d hd=>⟨Zw.updN hd,d,Zj,fun z=>(by rw [z,hD.2] at hd;cases hd),rfl⟩
  rintro _ H3 ⟨s3,d,hd,dt,rfl⟩
  have s03:=(s1.trans s2).trans s3
  replace hp:=s3 _ _ (s2 _ _ hp)
  replace hD:=hD.same s3.toN
  have B4:=B0.same s03
  refine zI (fun σ' H'=>Jf H3 H'/\B3 Zd Zg Zt H'/\∃kept,Y8 Zm H' o t kept/\H' d=some (.dK (txK kept))/\kept.length<=1/\(∀n x,zC kept n=some x->x.length<=62)/\σ'=[some (V.ref a),some (V.int n),some (V.ref p),some (V.ref o),some (V.ref d),none,none]) ?_ ?_
  ·simp only [Int.reduceLT,true_and,and_true,decide_eq_true_eq,gS,ZE,tC,zG,zf,YH,tOp,tB2,JZ,Jg,ZeP,gtV]
   refine z7 (fun _=>?_) fun _=>⟨ZS.toK (ZS.refl _),B4,[],hD,hd,by decide,fun n x e=>by cases e⟩
   refine zI (fun σ' H'=>∃x:List Nat,x.length<=60/\Jf H3 H'/\B3 Zd Zg Zt H'/\Y8 Zm H' o t []/\H' d=some (.dK (txK [(m0,x)]))/\H' p=some (.lst ([m0,m1].map fun n=>V.str (T n)))/\σ'=[some (V.ref a),some (V.int n),some (V.ref p),some (V.ref o),some (V.ref d),none,none]) ?_ ?_
   ·simp only [map_cons,map_nil,Int.reduceLE,true_and,and_true,gS,ZE,tC,tOp,Zx,ZL,tFn,ixV,ZfL,Ym,qw]
    refine ⟨ns,s03.seq hS,ns,s03.seq hS,hl,fun x xl _ H4 s4=>⟨_,_,.inl (SqL.of (s4 _ _ hp)),rfl,d,_,rfl,ZkK.k (k:=.inr (T m0)) (s4 _ _ hd) (by show 0<_;omega),x,xl,?_⟩⟩
    rw [Zd9]
    have hD':=hD.same s4.toN
    have hd':=s4 _ _ hd
    obtain ⟨⟨dx,ho⟩,ht⟩:=hD'
    exact ⟨(ZS.toK s4.toN).trans (Jf.dk hd'),(B4.same s4).dk hd',⟨⟨dx,(Zn (Zcm ho hd' (by intro z;cases z))).trans ho⟩,(Zn (Ne.symm dt)).trans ht⟩,Zj,(Zn (Zcm (s4 _ _ hp) hd' (by intro z;cases z))).trans (s4 _ _ hp)⟩
   rintro _ H4 ⟨x,xl,s4,B4,hD,hd,hp,rfl⟩
   have w1:L (Str.ofString "keep ")=cd "keep"++[32]:=by decide +kernel
   have w2:L (Str.ofString " ")=[32]:=by decide +kernel
   have w3:(cd "keep").length=4:=by decide +kernel
   have nl:=i0.2.1
   have ly:zC [(m0,x)] m0=some x:=Zfb [] m0 x m0▸if_pos rfl
   have hv:z6 (txK [(m0,x)]) (.inr (T m0))=some (V.str (T x)):=by rw [Zaa,ly];rfl
   simp only [and_true,if_true,Bool.not_false,gS,ZE,tC,zf,zP,YH,tOp,Zx,ZL,tFn,Zhh,trV,Y5,ixV,L_T,Zgz,Zbr]
   refine ⟨_,_,.inl (SqL.of hp),rfl,?_⟩
   simp only [w1,w2,L_T]
   refine ⟨by simp only [length_append,length_cons,length_nil];omega,by simp only [length_append,length_cons,length_nil];omega,_,_,.inl (SqL.of hp),rfl,d,_,rfl,hv▸DGet.k (k:=.inr (T m0)) hd,?_⟩
   simp only [L_T,Ys]
   have er:cd "keep"++[32]++m0++[32]++x=jn [cd "keep",m0]++32::x:=by simp [jn]
   rw [er]
   have gr:=Zlj (x:=x) i0.noB
   refine ⟨by simp only [length_append,length_cons,length_nil];omega,t,[],hD,by decide,by simp only [jn,length_append,length_cons];omega,B4.b1,B4.b2,B4.n12,fun z=>absurd ⟨_,_,gr⟩ z,fun i' ws g'=>?_⟩
   obtain ⟨rfl,rfl⟩:=g'.uniq gr
   refine ⟨fun z=>absurd ⟨fun _=>i0,fun z=>absurd (.inl rfl) z⟩ z,fun _=>.inl ⟨rfl,rfl,fun _ H5 p5 sd _ h5=>?_,fun z=>?_⟩⟩
   ·simp only [zz]
    refine ⟨_,h5,?_⟩
    rw [L_T,decide_eq_true (show cd "ok"=L (Str.ofString "ok") from rfl)]
    refine Zd0 ⟨s4.trans ((Jf.dk hD.2).trans (ZS.toK sd.same)),(B4.dk hD.2).sd sd,[(m0,x)],hD.put sd.same,sd.same.at ((Zn dt).trans hd) (by nofun),Nat.le_refl 1,fun m y e=>?_⟩
    have e:zC (Zcc [] m0 x) m=some y:=e
    rw [Zfb] at e
    split at e
    ·cases Option.some.inj e
     omega
    ·cases e
   ·have z:300<x.length:=z
    omega
  rintro _ H4 ⟨s4,B4,kept,hD,hd,hk,hx,rfl⟩
  replace hp:=s4.at hp (by nofun) (by nofun)
  have s04:=(ZS.toK s03.toN).trans s4
  have nn:∀n∈[m0,m1],YI n:=fun n hn=>by
   rcases mem_cons.mp hn with rfl|hn
   ·exact i0
   ·rw [mem_singleton.mp hn]
    exact i1
  simp only [tC,zG,zP,Zx,ZL,ZoD,ZqD]
  refine ⟨⟨by omega,by omega⟩,fun i σ' H'=>Jf H H'/\H' p=some (.lst ([m0,m1].map fun n=>V.str (T n)))/\B3 Zd Zg Zt H'/\∃kept u1 u2,Y8 Zm H' o t kept/\H' d=some (.dK (txK kept))/\kept.length<=1+i/\(∀n x,zC kept n=some x->x.length<=62)/\σ'=[some (V.ref a),some (V.int n),some (V.ref p),some (V.ref o),some (V.ref d),u1,u2],⟨s04,hp,B4,kept,none,none,hD,hd,by omega,hx,rfl⟩,?_,fun σ' H' _=>q H'⟩
  clear hp B4 hD hd hk hx kept
  rintro i σ' H5 hi ⟨s5,hp,B5,kept,u1,u2,hD,hd,hk,hx,rfl⟩
  refine zI (fun σ' H'=>Zw H5 H'/\∃x:List Nat,x.length<=60/\(∀c∈x,c∈Zcp)/\σ'=[some (V.ref a),some (V.int n),some (V.ref p),some (V.ref o),some (V.ref d),some (V.int (0+(i:Int))),some (V.str (T x))]) ?_ ?_
  ·simp only [set_cons_zero,set_cons_succ,gS,ZE,tC,Z3,Zz,tOp,Zx,ZL,tFn,Y5,Zig,Ym,qw]
   exact ⟨.inl ⟨by decide,by decide⟩,ns,s5.seq hS,by omega,ns,s5.seq hS,hl,by omega,by omega,fun x xl xs H' s'=>⟨s',x,xl,xs,rfl⟩⟩
  rintro _ H6 ⟨s6,x,xl,xs,rfl⟩
  have s06:=s5.trans (ZS.toK s6.toN)
  refine zI (fun σ' H'=>Jf H H'/\H' p=some (.lst ([m0,m1].map fun n=>V.str (T n)))/\B3 Zd Zg Zt H'/\∃kept,Y8 Zm H' o t kept/\H' d=some (.dK (txK kept))/\kept.length<=1+(i+1)/\(∀n x,zC kept n=some x->x.length<=62)/\σ'=[some (V.ref a),some (V.int n),some (V.ref p),some (V.ref o),some (V.ref d),some (V.int (0+(i:Int))),some (V.str (T x))]) ?_ ?_
  ·simp only [map_cons,map_nil,and_true,if_false,Bool.not_true,Bool.false_eq_true,gS,ZE,tC,zf,zP,YH,tOp,Zx,ZL,tFn,Zhh,trV,Y5,Zig,L_T,Ym,ZaX,L_T]
   exact ⟨ns,s06.seq hS,by omega,.inr ⟨by decide,by decide⟩,t,kept,[m0,m1],hD.same s6.toN,s6 _ _ hd,dt,by omega,hx,s6 _ _ hp,rfl,nn,by omega,fun c hc=>ten c (xs c hc),B5.same s6,fun H' kept' s' hD' hd' hk' hx' B'=>⟨s06.trans s',s'.at (s6 _ _ hp) (by nofun) (by nofun),B',kept',hD',hd',by omega,hx'⟩⟩
  clear hp hD hd hk hx kept
  rintro _ H7 ⟨s7,hp,B7,kept,hD,hd,hk,hx,rfl⟩
  simp only [map_cons,map_nil,if_false,Bool.not_true,Bool.false_eq_true,gS,ZE,tC,zf,zP,YH,Zx,ZL,tFn,Zhh,trV,qH]
  exact ⟨t,kept,[m0,m1],hD,hd,by omega,hx,hp,nn,B7,fun H' s' B'=>⟨s7.trans (ZS.toK s'),s'.at hp (by nofun),B',kept,_,_,hD.same s',s'.at hd (by nofun),hk,hx,rfl⟩⟩
end
theorem us1 {us:List Value} (h:us.length=1):∃x0,us=[x0]:=match us,h with|[x0],_=>⟨x0,rfl⟩
theorem us2 {us:List Value} (h:us.length=2):∃x0 x1,us=[x0,x1]:=match us,h with|[x0,x1],_=>⟨x0,x1,rfl⟩
theorem us3 {us:List Value} (h:us.length=3):∃x0 x1 x2,us=[x0,x1,x2]:=match us,h with|[x0,x1,x2],_=>⟨x0,x1,x2,rfl⟩
theorem us4 {us:List Value} (h:us.length=4):∃x0 x1 x2 x3,us=[x0,x1,x2,x3]:=match us,h with|[x0,x1,x2,x3],_=>⟨x0,x1,x2,x3,rfl⟩
theorem us5 {us:List Value} (h:us.length=5):∃x0 x1 x2 x3 x4,us=[x0,x1,x2,x3,x4]:=match us,h with|[x0,x1,x2,x3,x4],_=>⟨x0,x1,x2,x3,x4,rfl⟩
theorem ZuE {l:PySem.W.OpenLaw} {w:World} {K:PySem.W.Frag} {h:Heap} {mg:Str->Option Value} {fa qN JQ Zad qr qo ZaJ Zbl JN Zac ZaA JP Zab ZaI qL JS YN YL YO YJ ZaF Zbg ZcX ZaD Zb8 Zc9 ZcD ZaB Zda ZcR Zay Zd8 Zc3 Zag Zdd f_law YB zY Yk zW zA Yz qK Js ZC ZQ ZF ZZ ZG ZP Zc Zm:Addr} (X:K.In h) (G:h.Ns mainGlobals mg) (hfa:mg "law"=some (.ref fa))
 {ZyC ZAj ZyF ZAw Zzt Zya Zz1 ZyZ Zzb Zy4 Zzr ZzL ZxU ZzB ZzI Zzu ZAe ZyB Zy0 Zys Zux ZxF ZwO Ztl Zxd Zxb ZsP Zus Zuq ZsE Zu5 Zxn Zuh Zwl Zvv ZxJ Zvr ZvB ZwC Zvh Zuc ZsA Zxf ZwZ Zum Zw3 Zwj ZtG Zwk ZtV ZuF ZwM ZsY Zwc Zw2 Zvm ZvL Zuw Ztb ZuH ZtX Zve ZvU Zwy ZvQ Zsv Zt9 Zxh ZvR Zlw Zws ZwQ ZvM ZtO ZuK Zwn Zsh Zv5 Zxq Zs4 ZxL ZvZ Zto Zud Zt4 Zt8:Option Addr} {ZAx Zx1 ZyH ZzG ZzA ZAs ZAv Zym ZyU ZyX Zsd Zvs Zs8 Zvz Zv4 ZtU Zt0 Zsy ZxC Zvi ZwT Zuf ZtM Zxl Zsu Zu1 Zw9 ZtL Zta Zvg Zw4 Ztx Zug Zup Zxa Zsx ZuD Zsm Zw5 ZwB ZtS ZsI Zt2:Array (Option Value)} {Zx0 Zyw Zy6 Zy3 ZzY ZrM ZyI Zzf ZyT ZyO ZzD ZrB Zyu Zyt Zy8 ZAg Zyn ZzT Zye ZzR ZAz Zyf Zrs ZAk Zzn Zy2 Zyg ZyY Zrr Zx4 Zzh Zyo ZAr ZxY Zrh Zyl ZAb ZzZ ZAn Zx3 ZrS ZAA Zyk ZAq ZzC ZyK Zrg Zyy Zy7 ZxS Zzo Zzx Zq0 ZzW Zz4 ZyA Zyj Zyx Zrf ZwL ZtP Zsq Zuv Zti ZoG Zvx ZvK Zt1 Zxs Zu2 ZnD Zvu Zs5 Ztz Ztm Zsw ZnI Zte ZvY Zwv Zr6 Zu4 Zm6 Ztr Zt3 Zub Zsj Zxt ZoU Zwa Ztq Zwh ZtC Zse ZlN ZvX Zxo Zxg ZwN Zr2 Zn2 ZtH ZsX ZsV Zxz Zvy Zl6 ZsO ZuS Zs7 Zth Zuz Zmn Zu7 Zvk Zvw Zul ZuR ZmM Zts ZwI Zs1 Zxi Zs3 Znj Zw6 ZtA Zww Zss Zv9 Zmp ZvV Zwz ZwR Zvn ZwD Zpm Zxx ZsB Zvc ZsK Zu6 ZsS Ztk Zt5 Zu9 Zt6 Zno ZvC Zue Zr1 Zwu ZuN ZpB Zxy ZxB Zt7 ZsQ Zvo ZlZ ZtT Ztt ZuV ZxH Zvt ZnB Zxm Zr4 Ztd ZwJ Ztn Zmy ZxP Zr7 ZxM ZwG Zvf ZlH ZuU Zwf Zuj Zsl ZtD Zod ZtE ZwY Zuk ZtW ZvG ZlB Zs2 ZtK Zuy Ztc Zvp ZoA Zw0 ZwS ZvF Zu8 ZvJ Znm ZxO Zoh Zm5 ZmB Zpi ZiQ ZuJ ZtJ Zwt Zty ZuP Zsp Zwo Zur ZsF ZuW ZpA Zsf ZvH ZuZ ZxK ZxD Zoa ZsJ ZwE ZsN Zr9 Ztw ZnA Zxj ZuT ZuG ZtB Zv8 ZoK Zxu Zxe ZxE Zxp Zwm ZoC ZvA Zv0 Zs6 Zwx ZuC Zl3 ZsL Zsg Zxk ZuX Ztu ZoN:Value}
 (Ztg:nsIn K mainGlobals "check_place"=some (some (.ref qN))) (Zu3:K.lookup qN=some ⟨Zx0,ZyC,.func (fnOf "check_place" "check_place" (ZB Yb) (Zy Yb) (Zk Yb) .none Zyw Zy6 Zy3 ZAj ZrM ZzY),ZAx⟩) (ZuM:codeIn K ZrM "check_place"=true) (ZqG:keepIn K (.ref qN)=true)
 (ZuY:nsIn K mainGlobals "number_in"=some (some (.ref JQ))) (ZwX:K.lookup JQ=some ⟨ZyI,ZyF,.func (fnOf "number_in" "number_in" (ZB YZ) (Zy YZ) (Zk YZ) .none Zzf ZyT ZyO ZAw ZrB ZzD),Zx1⟩) (Zsz:codeIn K ZrB "number_in"=true) (Zqz:keepIn K (.ref JQ)=true)
 {Zg1 Zg:Addr} {ZrG:List Value}
 (Zu0:nsIn K mainGlobals "order_of"=some (some (.ref Zad))) (ZsR:K.lookup Zad=some ⟨Zyu,Zzt,.func (fnOf "order_of" "order_of" (ZB qx) (Zy qx) (Zk qx) .none Zyt Zy8 ZAg Zya (.ref Zg1) Zyn),ZyH⟩) (ZwP:codeIn K (.ref Zg1) "order_of"=true) (Zqr:keepIn K (.ref Zad)=true)
 (t_p_order_of:recIn K Zg1 "code"=some ZrG) (Zzl:ZrG[11]?=some (.ref Zg)) (ZqJ:codeHdIn K Zg1 Zg=true) (ZsU:K.lookup Zg=none)
 (ZwH:nsIn K mainGlobals "comes_before"=some (some (.ref qr))) (ZxI:K.lookup qr=some ⟨ZzT,Zz1,.func (fnOf "comes_before" "comes_before" (ZB zT) (Zy zT) (Zk zT) .none Zye ZzR ZAz ZyZ Zrs Zyf),ZzG⟩) (ZvS:codeIn K Zrs "comes_before"=true) (Zqw:keepIn K (.ref qr)=true)
 (Zv2:nsIn K mainGlobals "last_letters"=some (some (.ref qo))) (ZwF:K.lookup qo=some ⟨ZAk,Zzb,.func (fnOf "last_letters" "last_letters" (ZB zQ) (Zy zQ) (Zk zQ) .none Zzn Zy2 Zyg Zy4 Zrr ZyY),ZzA⟩) (ZsW:codeIn K Zrr "last_letters"=true) (Zp9:keepIn K (.ref qo)=true)
 (ZuO:nsIn K mainGlobals "runs_of"=some (some (.ref ZaJ))) (ZtZ:K.lookup ZaJ=some ⟨Zx4,Zzr,.func (fnOf "runs_of" "runs_of" (ZB q9) (Zy q9) (Zk q9) .none Zzh Zyo ZAr ZzL Zrh ZxY),ZAs⟩) (Zwr:codeIn K Zrh "runs_of"=true) (Zqc:keepIn K (.ref ZaJ)=true)
 (Zsc:nsIn K mainGlobals "packed"=some (some (.ref Zbl))) (ZvN:K.lookup Zbl=some ⟨Zyl,ZxU,.func (fnOf "packed" "packed" (ZB JG) (Zy JG) (Zk JG) .none ZAb ZzZ ZAn ZzB ZrS Zx3),ZAv⟩) (Zv3:codeIn K ZrS "packed"=true) (Zqe:keepIn K (.ref Zbl)=true)
 (Zv7:nsIn K mainGlobals "read_runs"=some (some (.ref JN))) (Zxv:K.lookup JN=some ⟨ZAA,ZzI,.func (fnOf "read_runs" "read_runs" (ZB Y4) (Zy Y4) (Zk Y4) .none Zyk ZAq ZzC Zzu Zrg ZyK),Zym⟩) (Zvq:codeIn K Zrg "read_runs"=true) (Zqm:keepIn K (.ref JN)=true)
 (Zxr:nsIn K mainGlobals "unpacked"=some (some (.ref Zac))) (ZwW:K.lookup Zac=some ⟨Zyy,ZAe,.func (fnOf "unpacked" "unpacked" (ZB qm) (Zy qm) (Zk qm) .none Zy7 ZxS Zzo ZyB Zq0 Zzx),ZyU⟩) (ZvW:codeIn K Zq0 "unpacked"=true) (Zp7:keepIn K (.ref Zac)=true)
 (ZtI:nsIn K mainGlobals "road_of"=some (some (.ref ZaA))) (Zsb:K.lookup ZaA=some ⟨ZzW,Zy0,.func (fnOf "road_of" "road_of" (ZB Jd) (Zy Jd) (Zk Jd) .none Zz4 ZyA Zyj Zys Zrf Zyx),ZyX⟩) (Zr5:codeIn K Zrf "road_of"=true) (Zp4:keepIn K (.ref ZaA)=true)
 (Zpg:nsIn K mainGlobals "read_back"=some (some (.ref JP))) (ZnX:K.lookup JP=some ⟨ZwL,Zux,.func (fnOf "read_back" "read_back" (ZB Y0) (Zy Y0) (Zk Y0) .none ZtP Zsq Zuv ZxF ZoG Zti),Zsd⟩) (ZnG:codeIn K ZoG "read_back"=true) (Zjc:keepIn K (.ref JP)=true)
 (Znq:nsIn K mainGlobals "read_row"=some (some (.ref Zab))) (Zox:K.lookup Zab=some ⟨Zvx,ZwO,.func (fnOf "read_row" "read_row" (ZB qu) (Zy qu) (Zk qu) .none ZvK Zt1 Zxs Ztl ZnD Zu2),Zvs⟩) (Znh:codeIn K ZnD "read_row"=true) (ZjS:keepIn K (.ref Zab)=true)
 (Zmf:nsIn K mainGlobals "is_name"=some (some (.ref ZaI))) (Znw:K.lookup ZaI=some ⟨Zvu,Zxd,.func (fnOf "is_name" "is_name" (ZB qU) (Zy qU) (Zk qU) .none Zs5 Ztz Ztm Zxb ZnI Zsw),Zs8⟩) (Znp:codeIn K ZnI "is_name"=true) (Zja:keepIn K (.ref ZaI)=true)
 (Zoy:nsIn K mainGlobals "check_names"=some (some (.ref qL))) (ZnW:K.lookup qL=some ⟨Zte,ZsP,.func (fnOf "check_names" "check_names" (ZB z9) (Zy z9) (Zk z9) .none ZvY Zwv Zr6 Zus Zm6 Zu4),Zvz⟩) (Znn:codeIn K Zm6 "check_names"=true) (Zkj:keepIn K (.ref qL)=true)
 (Znk:nsIn K mainGlobals "keep_text"=some (some (.ref JS))) (ZmO:K.lookup JS=some ⟨Ztr,Zuq,.func (fnOf "keep_text" "keep_text" (ZB Y3) (Zy Y3) (Zk Y3) .none Zt3 Zub Zsj ZsE ZoU Zxt),Zv4⟩) (Zpo:codeIn K ZoU "keep_text"=true) (Zjh:keepIn K (.ref JS)=true)
 (Zj2:nsIn K mainGlobals "answer_keep"=some (some (.ref YN))) (Znr:K.lookup YN=some ⟨Zwa,Zu5,.func (fnOf "answer_keep" "answer_keep" (ZB Ya) (Zy Ya) (Zk Ya) .none Ztq Zwh ZtC Zxn ZlN Zse),ZtU⟩) (ZlP:codeIn K ZlN "answer_keep"=true) (Zi7:keepIn K (.ref YN)=true)
 (ZjV:nsIn K mainGlobals "answer_load"=some (some (.ref YL))) (Zl9:K.lookup YL=some ⟨ZvX,Zuh,.func (fnOf "answer_load" "answer_load" (ZB Ye) (Zy Ye) (Zk Ye) .none Zxo Zxg ZwN Zwl Zn2 Zr2),Zt0⟩) (ZmR:codeIn K Zn2 "answer_load"=true) (Zjm:keepIn K (.ref YL)=true)
 (Zj5:nsIn K mainGlobals "answer_text"=some (some (.ref YO))) (ZlL:K.lookup YO=some ⟨ZtH,Zvv,.func (fnOf "answer_text" "answer_text" (ZB Yd) (Zy Yd) (Zk Yd) .none ZsX ZsV Zxz ZxJ Zl6 Zvy),Zsy⟩) (ZlY:codeIn K Zl6 "answer_text"=true) (ZjC:keepIn K (.ref YO)=true)
 (Zkn:nsIn K mainGlobals "answer_pack"=some (some (.ref YJ))) (Zmw:K.lookup YJ=some ⟨ZsO,Zvr,.func (fnOf "answer_pack" "answer_pack" (ZB Yc) (Zy Yc) (Zk Yc) .none ZuS Zs7 Zth ZvB Zmn Zuz),ZxC⟩) (ZoO:codeIn K Zmn "answer_pack"=true) (Zjs:keepIn K (.ref YJ)=true)
 (Zmt:nsIn K mainGlobals "_law_cell_at"=some (some (.ref ZaF))) (ZnV:K.lookup ZaF=some ⟨Zu7,ZwC,.func (fnOf "_law_cell_at" "_law_cell_at" (ZB qZ) (Zy qZ) (Zk qZ) .none Zvk Zvw Zul Zvh ZmM ZuR),Zvi⟩) (Zpj:codeIn K ZmM "_law_cell_at"=true) (ZjA:keepIn K (.ref ZaF)=true)
 (Zlx:nsIn K mainGlobals "_law_stream"=some (some (.ref Zbg))) (ZoV:K.lookup Zbg=some ⟨Zts,Zuc,.func (fnOf "_law_stream" "_law_stream" (ZB JD) (Zy JD) (Zk JD) .none ZwI Zs1 Zxi ZsA Znj Zs3),ZwT⟩) (Zn7:codeIn K Znj "_law_stream"=true) (ZjY:keepIn K (.ref Zbg)=true)
 (ZmW:nsIn K mainGlobals "_law_sign"=some (some (.ref ZcX))) (Zmi:K.lookup ZcX=some ⟨Zw6,Zxf,.func (fnOf "_law_sign" "_law_sign" (ZB ZaY) (Zy ZaY) (Zk ZaY) .none ZtA Zww Zss ZwZ Zmp Zv9),Zuf⟩) (Zob:codeIn K Zmp "_law_sign"=true) (ZjW:keepIn K (.ref ZcX)=true)
 (Zoj:nsIn K mainGlobals "_law_text_by"=some (some (.ref ZaD))) (Zni:K.lookup ZaD=some ⟨ZvV,Zum,.func (fnOf "_law_text_by" "_law_text_by" (ZB qX) (Zy qX) (Zk qX) .none Zwz ZwR Zvn Zw3 Zpm ZwD),ZtM⟩) (ZmZ:codeIn K Zpm "_law_text_by"=true) (ZjE:keepIn K (.ref ZaD)=true)
 {Zfc Zt:Addr} {Zo9:List Value}
 (ZlW:nsIn K mainGlobals "_law_order"=some (some (.ref Zb8))) (Zmu:K.lookup Zb8=some ⟨Zxx,Zwj,.func (fnOf "_law_order" "_law_order" (ZB Zak) (Zy Zak) (Zk Zak) .none ZsB Zvc ZsK ZtG (.ref Zfc) Zu6),Zxl⟩) (ZoT:codeIn K (.ref Zfc) "_law_order"=true) (Zjp:keepIn K (.ref Zb8)=true)
 (t_w_order:recIn K Zfc "code"=some Zo9) (Zq6:Zo9[11]?=some (.ref Zt)) (Zju:codeHdIn K Zfc Zt=true) (Zo5:K.lookup Zt=none)
 (ZnJ:nsIn K mainGlobals "_law_last"=some (some (.ref Zc9))) (Zo6:K.lookup Zc9=some ⟨ZsS,Zwk,.func (fnOf "_law_last" "_law_last" (ZB ZaU) (Zy ZaU) (Zk ZaU) .none Ztk Zt5 Zu9 ZtV Zno Zt6),Zsu⟩) (Zo1:codeIn K Zno "_law_last"=true) (ZjB:keepIn K (.ref Zc9)=true)
 (ZnF:nsIn K mainGlobals "_law_back"=some (some (.ref ZcD))) (ZnY:K.lookup ZcD=some ⟨ZvC,ZuF,.func (fnOf "_law_back" "_law_back" (ZB Za5) (Zy Za5) (Zk Za5) .none Zue Zr1 Zwu ZwM ZpB ZuN),Zu1⟩) (Zme:codeIn K ZpB "_law_back"=true) (Zkc:keepIn K (.ref ZcD)=true)
 (ZlQ:nsIn K mainGlobals "_law_written"=some (some (.ref ZaB))) (ZoH:K.lookup ZaB=some ⟨Zxy,ZsY,.func (fnOf "_law_written" "_law_written" (ZB qW) (Zy qW) (Zk qW) .none ZxB Zt7 ZsQ Zwc ZlZ Zvo),Zw9⟩) (ZoP:codeIn K ZlZ "_law_written"=true) (Zke:keepIn K (.ref ZaB)=true)
 (Zm1:nsIn K mainGlobals "_law_read"=some (some (.ref Zda))) (Zmm:K.lookup Zda=some ⟨ZtT,Zw2,.func (fnOf "_law_read" "_law_read" (ZB Za0) (Zy Za0) (Zk Za0) .none Ztt ZuV ZxH Zvm ZnB Zvt),ZtL⟩) (ZnN:codeIn K ZnB "_law_read"=true) (ZjM:keepIn K (.ref Zda)=true)
 (ZlO:nsIn K mainGlobals "_law_said"=some (some (.ref ZcR))) (Zpe:K.lookup ZcR=some ⟨Zxm,ZvL,.func (fnOf "_law_said" "_law_said" (ZB Za9) (Zy Za9) (Zk Za9) .none Zr4 Ztd ZwJ Zuw Zmy Ztn),Zta⟩) (Zpy:codeIn K Zmy "_law_said"=true) (ZjK:keepIn K (.ref ZcR)=true)
 (ZlA:nsIn K mainGlobals "_law_is_said"=some (some (.ref Zay))) (Zo2:K.lookup Zay=some ⟨ZxP,Ztb,.func (fnOf "_law_is_said" "_law_is_said" (ZB qV) (Zy qV) (Zk qV) .none Zr7 ZxM ZwG ZuH ZlH Zvf),Zvg⟩) (Zph:codeIn K ZlH "_law_is_said"=true) (Zjb:keepIn K (.ref Zay)=true)
 (Zmx:nsIn K mainGlobals "_law_bad"=some (some (.ref Zd8))) (ZmJ:K.lookup Zd8=some ⟨ZuU,ZtX,.func (fnOf "_law_bad" "_law_bad" (ZB Zb9) (Zy Zb9) (Zk Zb9) .none Zwf Zuj Zsl Zve Zod ZtD),Zw4⟩) (Zm0:codeIn K Zod "_law_bad"=true) (Zi9:keepIn K (.ref Zd8)=true)
 (Zl5:nsIn K mainGlobals "_law_name"=some (some (.ref Zc3))) (ZoF:K.lookup Zc3=some ⟨ZtE,ZvU,.func (fnOf "_law_name" "_law_name" (ZB ZaZ) (Zy ZaZ) (Zk ZaZ) .none ZwY Zuk ZtW Zwy ZlB ZvG),Ztx⟩) (ZmE:codeIn K ZlB "_law_name"=true) (ZjO:keepIn K (.ref Zc3)=true)
 (ZmD:nsIn K mainGlobals "_law_all_told"=some (some (.ref Zag))) (Znd:K.lookup Zag=some ⟨Zs2,ZvQ,.func (fnOf "_law_all_told" "_law_all_told" (ZB qp) (Zy qp) (Zk qp) .none ZtK Zuy Ztc Zsv ZoA Zvp),Zug⟩) (ZoM:codeIn K ZoA "_law_all_told"=true) (Zj6:keepIn K (.ref Zag)=true)
 (ZmV:nsIn K mainGlobals "_law_load"=some (some (.ref Zdd))) (Zon:K.lookup Zdd=some ⟨Zw0,Zt9,.func (fnOf "_law_load" "_law_load" (ZB Za1) (Zy Za1) (Zk Za1) .none ZwS ZvF Zu8 Zxh Znm ZvJ),Zup⟩) (Zn1:codeIn K Znm "_law_load"=true) (Zjz:keepIn K (.ref Zdd)=true)
 (Zpu:nsIn K mainGlobals "law"=some (some (.ref f_law))) (ZmN:K.lookup f_law=some ⟨ZxO,ZvR,.func (fnOf "law" "law" (ZB Zdh) (Zy Zdh) (Zk Zdh) .none Zoh Zm5 ZmB Zlw ZiQ Zpi),Zxa⟩) (Zol:codeIn K ZiQ "law"=true) (Zne:keepIn K (.ref f_law)=true)
 {ZeN Zd:Addr} {Zpn:List Value}
 (ZmT:findIn K (.ref Zc) "__init__"=some (some (.ref YB))) (Znx:isFn K (.ref YB)=true) (Zmj:K.lookup YB=some ⟨ZuJ,Zws,.func (fnOf "__init__" "Letters.__init__" (ZB zR) (Zy zR) (Zk zR) .none ZtJ Zwt Zty ZwQ (.ref ZeN) ZuP),Zsx⟩) (ZoI:codeIn K (.ref ZeN) "Letters.__init__"=true) (Zo7:keepIn K (.ref YB)=true)
 (t_m_Letters_init:recIn K ZeN "code"=some Zpn) (Zrc:Zpn[11]?=some (.ref Zd)) (ZjI:codeHdIn K ZeN Zd=true) (Zpb:K.lookup Zd=none)
 (Zoz:findIn K (.ref Zc) "letter"=some (some (.ref zY))) (Zl0:isFn K (.ref zY)=true) (ZoZ:K.lookup zY=some ⟨Zsp,ZvM,.func (fnOf "letter" "Letters.letter" (ZB zw) (Zy zw) (Zk zw) .none Zwo Zur ZsF ZtO ZpA ZuW),ZuD⟩) (Zm9:codeIn K ZpA "Letters.letter"=true) (Zjg:keepIn K (.ref zY)=true)
 (ZlR:findIn K (.ref Zc) "first"=some (some (.ref Yk))) (Zog:isFn K (.ref Yk)=true) (Zps:K.lookup Yk=some ⟨Zsf,ZuK,.func (fnOf "first" "Letters.first" (ZB zE) (Zy zE) (Zk zE) .none ZvH ZuZ ZxK Zwn Zoa ZxD),Zsm⟩) (Zoe:codeIn K Zoa "Letters.first"=true) (Zjl:keepIn K (.ref Yk)=true)
 (Zns:findIn K (.ref Zc) "before"=some (some (.ref zW))) (ZoQ:isFn K (.ref zW)=true) (Zng:K.lookup zW=some ⟨ZsJ,Zsh,.func (fnOf "before" "Letters.before" (ZB zm) (Zy zm) (Zk zm) .none ZwE ZsN Zr9 Zv5 ZnA Ztw),Zw5⟩) (Zpq:codeIn K ZnA "Letters.before"=true) (ZjT:keepIn K (.ref zW)=true)
 (ZnC:findIn K (.ref Zc) "row_with"=some (some (.ref zA))) (ZmF:isFn K (.ref zA)=true) (ZmI:K.lookup zA=some ⟨Zxj,Zxq,.func (fnOf "row_with" "Letters.row_with" (ZB Z9) (Zy Z9) (Zk Z9) .none ZuT ZuG ZtB Zs4 ZoK Zv8),ZwB⟩) (Zok:codeIn K ZoK "Letters.row_with"=true) (Zje:keepIn K (.ref zA)=true)
 (ZnP:findIn K (.ref Zc) "back"=some (some (.ref Yz))) (ZlF:isFn K (.ref Yz)=true) (ZnK:K.lookup Yz=some ⟨Zxu,ZxL,.func (fnOf "back" "Letters.back" (ZB zO) (Zy zO) (Zk zO) .none Zxe ZxE Zxp ZvZ ZoC Zwm),ZtS⟩) (ZnU:codeIn K ZoC "Letters.back"=true) (Zjy:keepIn K (.ref Yz)=true)
 (Zpc:findIn K (.ref Zm) "__init__"=some (some (.ref qK))) (ZoE:isFn K (.ref qK)=true) (ZlT:K.lookup qK=some ⟨ZvA,Zto,.func (fnOf "__init__" "Desk.__init__" (ZB YY) (Zy YY) (Zk YY) .none Zv0 Zs6 Zwx Zud Zl3 ZuC),ZsI⟩) (Znc:codeIn K Zl3 "Desk.__init__"=true) (Zov:keepIn K (.ref qK)=true)
 (ZlE:findIn K (.ref Zm) "say"=some (some (.ref Js))) (Znb:isFn K (.ref Js)=true) (Zoq:K.lookup Js=some ⟨ZsL,Zt4,.func (fnOf "say" "Desk.say" (ZB qt) (Zy qt) (Zk qt) .none Zsg Zxk ZuX Zt8 ZoN Ztu),Zt2⟩) (ZlU:codeIn K ZoN "Desk.say"=true) (Zka:keepIn K (.ref Js)=true)
 (m_BackError:nsIn K mainGlobals "BackError"=some (some (.ref ZC)))
 (x_BackError:excIn K ZC VE "ValueError.__new__"=true)
 (m_NoPlace:nsIn K mainGlobals "NoPlace"=some (some (.ref ZQ)))
 (x_NoPlace:excIn K ZQ VE "ValueError.__new__"=true)
 (m_NoText:nsIn K mainGlobals "NoText"=some (some (.ref ZF)))
 (x_NoText:excIn K ZF VE "ValueError.__new__"=true)
 (g1_NoText:findIn K (.ref ZF) "__getattribute__"=some (some (.builtin "BaseException.__getattribute__"))) (g2_NoText:findIn K (.ref ZF) "__getattr__"=some none) (g3_NoText:findIn K (.ref ZF) "__class__"=some (some (.builtin "object.__class__")))
 (g4_NoText:specialIn K (.builtin "object.__class__") "__get__"=some (some (.builtin "getset_descriptor.__get__"))) (g5_NoText:takesIn K (.builtin "object.__class__")=some true) (g6_NoText:mroIn K ZF (.type "object")=some true) (g7_NoText:mroIn K ZF (.type "BaseException")=some true)
 (v_NoText:kitOne K (.ref ZF) (.type "ValueError")=some true)
 (m_TooLong:nsIn K mainGlobals "TooLong"=some (some (.ref ZZ)))
 (x_TooLong:excIn K ZZ VE "ValueError.__new__"=true)
 (m_NoName:nsIn K mainGlobals "NoName"=some (some (.ref ZG)))
 (x_NoName:excIn K ZG VE "ValueError.__new__"=true)
 (g1_NoName:findIn K (.ref ZG) "__getattribute__"=some (some (.builtin "BaseException.__getattribute__"))) (g2_NoName:findIn K (.ref ZG) "__getattr__"=some none) (g3_NoName:findIn K (.ref ZG) "__class__"=some (some (.builtin "object.__class__")))
 (g4_NoName:specialIn K (.builtin "object.__class__") "__get__"=some (some (.builtin "getset_descriptor.__get__"))) (g5_NoName:takesIn K (.builtin "object.__class__")=some true) (g6_NoName:mroIn K ZG (.type "object")=some true) (g7_NoName:mroIn K ZG (.type "BaseException")=some true)
 (v_NoName:kitOne K (.ref ZG) (.type "ValueError")=some true)
 (m_NoRow:nsIn K mainGlobals "NoRow"=some (some (.ref ZP)))
 (x_NoRow:excIn K ZP VE "ValueError.__new__"=true)
 (g1_NoRow:findIn K (.ref ZP) "__getattribute__"=some (some (.builtin "BaseException.__getattribute__"))) (g2_NoRow:findIn K (.ref ZP) "__getattr__"=some none) (g3_NoRow:findIn K (.ref ZP) "__class__"=some (some (.builtin "object.__class__")))
 (g4_NoRow:specialIn K (.builtin "object.__class__") "__get__"=some (some (.builtin "getset_descriptor.__get__"))) (g5_NoRow:takesIn K (.builtin "object.__class__")=some true) (g6_NoRow:mroIn K ZP (.type "object")=some true) (g7_NoRow:mroIn K ZP (.type "BaseException")=some true)
 (v_NoRow:kitOne K (.ref ZP) (.type "ValueError")=some true)
 (r_NoText_BackError:mroIn K ZF (.ref ZC)=some true)
 (t_NoText_NoPlace:kitOne K (.ref ZF) (.ref ZQ)=some false)
 (t_NoText_NoText:kitOne K (.ref ZF) (.ref ZF)=some true)
 (t_NoText_NoName:kitOne K (.ref ZF) (.ref ZG)=some false)
 (t_NoText_NoRow:kitOne K (.ref ZF) (.ref ZP)=some false)
 (r_NoName_BackError:mroIn K ZG (.ref ZC)=some true)
 (t_NoName_NoPlace:kitOne K (.ref ZG) (.ref ZQ)=some false)
 (t_NoName_NoText:kitOne K (.ref ZG) (.ref ZF)=some false)
 (t_NoName_NoName:kitOne K (.ref ZG) (.ref ZG)=some true)
 (t_NoName_NoRow:kitOne K (.ref ZG) (.ref ZP)=some false)
 (r_NoRow_BackError:mroIn K ZP (.ref ZC)=some true)
 (t_NoRow_NoPlace:kitOne K (.ref ZP) (.ref ZQ)=some false)
 (t_NoRow_NoText:kitOne K (.ref ZP) (.ref ZF)=some false)
 (t_NoRow_NoName:kitOne K (.ref ZP) (.ref ZG)=some false)
 (t_NoRow_NoRow:kitOne K (.ref ZP) (.ref ZP)=some true)
 (aC_Letters:nsIn K mainGlobals "Letters"=some (some (.ref Zc))) (pg_Letters:plainGet K Zc Str.empty=true) (hd_Letters:hasDictIn K Zc=true) (po_Letters:plainOver K Zc=true) (sa_Letters:findIn K (.ref Zc) "__setattr__"=some (some (.builtin "object.__setattr__"))) (mk_Letters:makesIn K Zc=true) (kc_Letters:keepIn K (.ref Zc)=true)
 (na_Letters_column:findIn K (.ref Zc) "column"=some none)
 (na_Letters_forths:findIn K (.ref Zc) "forths"=some none)
 (na_Letters_home:findIn K (.ref Zc) "home"=some none)
 (na_Letters_last:findIn K (.ref Zc) "last"=some none)
 (na_Letters_totals:findIn K (.ref Zc) "totals"=some none)
 (aC_Desk:nsIn K mainGlobals "Desk"=some (some (.ref Zm))) (pg_Desk:plainGet K Zm Str.empty=true) (hd_Desk:hasDictIn K Zm=true) (po_Desk:plainOver K Zm=true) (sa_Desk:findIn K (.ref Zm) "__setattr__"=some (some (.builtin "object.__setattr__"))) (mk_Desk:makesIn K Zm=true) (kc_Desk:keepIn K (.ref Zm)=true)
 (na_Desk_texts:findIn K (.ref Zm) "texts"=some none)
 {tk_MOST_SIGNS:Tok} (gc_MOST_SIGNS:nsIn K mainGlobals "MOST_SIGNS"=some (some (.int 300 tk_MOST_SIGNS)))
 {tk_NO_LETTER:Tok} (gc_NO_LETTER:nsIn K mainGlobals "NO_LETTER"=some (some (.str "\n" tk_NO_LETTER)))
 {Zp:Addr} (b_FORMS:nsIn K mainGlobals "FORMS"=some (some (.ref Zp)))
 (d_FORMS:Zfg K w.params Zp ZbA)
 {Zh:Addr} (b_KEEPING:nsIn K mainGlobals "KEEPING"=some (some (.ref Zh)))
 (d_KEEPING:ZqV K Zh Zbn)
 {Zi:Addr} (b_ANSWERS:nsIn K mainGlobals "ANSWERS"=some (some (.ref Zi)))
 {fa_answer_ahead fa_answer_drop fa_answer_off fa_answer_count fa_answer_find fa_answer_near fa_answer_often fa_answer_kinds fa_answer_lone fa_answer_cut fa_answer_both:Addr}
 (d_ANSWERS:Zfg K w.params Zi [("keep",.ref YN),("load",.ref YL),("ahead",.ref fa_answer_ahead),("drop",.ref fa_answer_drop),("off",.ref fa_answer_off),("text",.ref YO),("pack",.ref YJ),("count",.ref fa_answer_count),("find",.ref fa_answer_find),("near",.ref fa_answer_near),("often",.ref fa_answer_often),("kinds",.ref fa_answer_kinds),("lone",.ref fa_answer_lone),("cut",.ref fa_answer_cut),("both",.ref fa_answer_both)])
 (z_ValueError:nsIn K mainGlobals "ValueError"=some none)
 (z_dict:nsIn K mainGlobals "dict"=some none)
 (z_int:nsIn K mainGlobals "int"=some none)
 (z_isinstance:nsIn K mainGlobals "isinstance"=some none)
 (z_len:nsIn K mainGlobals "len"=some none)
 (z_list:nsIn K mainGlobals "list"=some none)
 (z_range:nsIn K mainGlobals "range"=some none)
 (z_reversed:nsIn K mainGlobals "reversed"=some none)
 (z_set:nsIn K mainGlobals "set"=some none)
 (z_sorted:nsIn K mainGlobals "sorted"=some none)
 (z_str:nsIn K mainGlobals "str"=some none)
 (z_sum:nsIn K mainGlobals "sum"=some none)
 (z_zip:nsIn K mainGlobals "zip"=some none)
 {ts:List Addr} (hts:∀p∈ts,p=Zd\/p=Zg\/p=Zt)
 :(∀p∈ts,K.lookup p=none/\∃c,codeHdIn K c p=true)/\∃fd:FuncData,(∀(s:Shared) (v:Value),BindsTo s fd ⟨[v],[]⟩ [("_law_script",v)])/\∀base:Heap,K.In base->base.Ns mainGlobals mg->ZyM mg base->Z4 l.prog w K mg base CX0 11 fa fd ZjP (ZgU K Zd Zg Zt):=by
 have e:=hfa.symm.trans (mg_of X G Zpu)
 cases e
 have B:Bn mg:=⟨mg_none_of X G z_ValueError,mg_none_of X G z_dict,mg_none_of X G z_int,mg_none_of X G z_isinstance,mg_none_of X G z_len,mg_none_of X G z_list,mg_none_of X G z_range,mg_none_of X G z_reversed,mg_none_of X G z_set,mg_none_of X G z_sorted,mg_none_of X G z_str,mg_none_of X G z_sum,mg_none_of X G z_zip⟩
 have ER:Er K mg ⟨ZC,ZQ,0,ZF,0,0,ZZ,ZG,ZP⟩:=⟨mg_of X G m_BackError,x_BackError,mg_of X G m_NoPlace,x_NoPlace,mg_of X G m_NoText,x_NoText,⟨g1_NoText,g2_NoText,g3_NoText,g4_NoText,g5_NoText,g6_NoText,g7_NoText⟩,v_NoText,Zik r_NoText_BackError,t_NoText_NoPlace,t_NoText_NoText,t_NoText_NoName,t_NoText_NoRow,mg_of X G m_TooLong,x_TooLong,mg_of X G m_NoName,x_NoName,⟨g1_NoName,g2_NoName,g3_NoName,g4_NoName,g5_NoName,g6_NoName,g7_NoName⟩,v_NoName,Zik r_NoName_BackError,t_NoName_NoPlace,t_NoName_NoText,t_NoName_NoName,t_NoName_NoRow,mg_of X G m_NoRow,x_NoRow,⟨g1_NoRow,g2_NoRow,g3_NoRow,g4_NoRow,g5_NoRow,g6_NoRow,g7_NoRow⟩,v_NoRow,Zik r_NoRow_BackError,t_NoRow_NoPlace,t_NoRow_NoText,t_NoRow_NoName,t_NoRow_NoRow⟩
 have CF:Cf K Zc Zm:=⟨⟨pg_Letters,hd_Letters,po_Letters,sa_Letters⟩,na_Letters_column,na_Letters_forths,na_Letters_home,na_Letters_last,na_Letters_totals,⟨pg_Desk,hd_Desk,po_Desk,sa_Desk⟩,na_Desk_texts⟩
 have GC:Gc mg:=⟨⟨_,mg_of X G gc_MOST_SIGNS⟩,⟨_,mg_of X G gc_NO_LETTER⟩⟩
 have TP:Tp K w.params mg Zp Zh Zi:=⟨mg_of X G b_FORMS,d_FORMS,mg_of X G b_KEEPING,d_KEEPING,mg_of X G b_ANSWERS,Zqi d_ANSWERS (by intro p hp;simp only [ZeS,mem_cons,List.not_mem_nil,or_false] at hp;rcases hp with rfl|rfl|rfl|rfl;exact ⟨_,mg_of X G Zj2,by kernel_rfl⟩;exact ⟨_,mg_of X G ZjV,by kernel_rfl⟩;exact ⟨_,mg_of X G Zj5,by kernel_rfl⟩;exact ⟨_,mg_of X G Zkn,by kernel_rfl⟩)⟩
 have Zz3:=ZU (st:=Yb) Zu3 ZuM ZqG
 have ZAm:=ZU (st:=YZ) ZwX Zsz Zqz
 have ZxT:=ZU (st:=qx) ZsR ZwP Zqr
 have Zz7:=ZU (st:=zT) ZxI ZvS Zqw
 have ZyG:=ZU (st:=zQ) ZwF ZsW Zp9
 have ZAt:=ZU (st:=q9) ZtZ Zwr Zqc
 have Zz8:=ZU (st:=JG) ZvN Zv3 Zqe
 have ZyW:=ZU (st:=Y4) Zxv Zvq Zqm
 have ZAa:=ZU (st:=qm) ZwW ZvW Zp7
 have Zx8:=ZU (st:=Jd) Zsb Zr5 Zp4
 have ZrU:=ZU (st:=Y0) ZnX ZnG Zjc
 have ZrK:=ZU (st:=qu) Zox Znh ZjS
 have ZrJ:=ZU (st:=qU) Znw Znp Zja
 have Zrn:=ZU (st:=z9) ZnW Znn Zkj
 have Zq7:=ZU (st:=Y3) ZmO Zpo Zjh
 have Zq3:=ZU (st:=Ya) Znr ZlP Zi7
 have Zrj:=ZU (st:=Ye) Zl9 ZmR Zjm
 have Zrm:=ZU (st:=Yd) ZlL ZlY ZjC
 have ZrF:=ZU (st:=Yc) Zmw ZoO Zjs
 have ZrD:=ZU (st:=qZ) ZnV Zpj ZjA
 have Zrd:=ZU (st:=JD) ZoV Zn7 ZjY
 have Zri:=ZU (st:=ZaY) Zmi Zob ZjW
 have Zru:=ZU (st:=qX) Zni ZmZ ZjE
 have Zry:=ZU (st:=Zak) Zmu ZoT Zjp
 have Zq2:=ZU (st:=ZaU) Zo6 Zo1 ZjB
 have Zrp:=ZU (st:=Za5) ZnY Zme Zkc
 have ZrH:=ZU (st:=qW) ZoH ZoP Zke
 have ZrQ:=ZU (st:=Za0) Zmm ZnN ZjM
 have ZrI:=ZU (st:=Za9) Zpe Zpy ZjK
 have Zre:=ZU (st:=qV) Zo2 Zph Zjb
 have ZqX:=ZU (st:=Zb9) ZmJ Zm0 Zi9
 have Zrk:=ZU (st:=ZaZ) ZoF ZmE ZjO
 have Zrw:=ZU (st:=qp) Znd ZoM Zj6
 have Zq9:=ZU (st:=Za1) Zon Zn1 Zjz
 have Zyp:=ZU (st:=Zdh) ZmN Zol Zne
 have Zq8:=ZU (st:=zR) Zmj ZoI Zo7
 have ZrW:=ZU (st:=zw) ZoZ Zm9 Zjg
 have Zrl:=ZU (st:=zE) Zps Zoe Zjl
 have ZqY:=ZU (st:=zm) Zng Zpq ZjT
 have Zrb:=ZU (st:=Z9) ZmI Zok Zje
 have ZqZ:=ZU (st:=zO) ZnK ZnU Zjy
 have Zq5:=ZU (st:=YY) ZlT Znc Zov
 have Zrv:=ZU (st:=qt) Zoq ZlU Zka
 refine ⟨fun p hp=>?_,?_⟩
 ·rcases hts p hp with rfl|rfl|rfl
  ·exact ⟨Zpb,_,ZjI⟩
  ·exact ⟨ZsU,_,ZqJ⟩
  ·exact ⟨Zo5,_,Zju⟩
 refine ⟨fnOf "law" "law" (ZB Zdh) (Zy Zdh) (Zk Zdh) .none Zoh Zm5 ZmB Zlw ZiQ Zpi,fun s v=>.of_eq rfl,fun base kb nb bm=>?_⟩
 have LM_m_Letters_init:Lm mg base ZeN Zd:=⟨codeHd_of_K kb ZjI,bm⟩
 have LM_p_order_of:Lm mg base Zg1 Zg:=⟨codeHd_of_K kb ZqJ,bm⟩
 have LM_w_order:Lm mg base Zfc Zt:=⟨codeHd_of_K kb Zju,bm⟩
 have ZyE:=ZrD.binds (ps:=JW) fun _ _ _ _ _ _ us hl=>by obtain ⟨_,_,rfl⟩:=us2 hl;exact rfl
 have Je:Fn l.prog w K mg base 1 "_law_cell_at" JW (Ym K):=⟨⟨ZaF,_,ZgY ZrD B ER TP CF GC,mg_of X G Zmt,ZjA,ZyE⟩⟩
 have Zze:=Zrd.binds (ps:=JC) fun _ _ _ _ _ _ us hl=>by obtain ⟨_,_,rfl⟩:=us2 hl;exact rfl
 have qR:Fn l.prog w K mg base 1 "_law_stream" JC (YF K):=⟨⟨Zbg,_,Zg9 Zrd B ER TP CF GC,mg_of X G Zlx,ZjY,Zze⟩⟩
 have ZzU:=Zri.binds (ps:=ZbG) fun _ _ _ _ _ _ us hl=>by obtain ⟨_,rfl⟩:=us1 hl;exact rfl
 have ZeL:Fn l.prog w K mg base 1 "_law_sign" ZbG (Za2 K):=⟨⟨ZcX,_,ZkM Zri B ER TP CF GC,mg_of X G ZmW,ZjW,ZzU⟩⟩
 have Zyz:=Zru.binds (ps:=JV) fun _ _ _ _ _ _ us hl=>by obtain ⟨_,_,_,rfl⟩:=us3 hl;exact rfl
 have ZaE:Fn l.prog w K mg base 2 "_law_text_by" JV (qw K):=⟨⟨ZaD,_,Zgm Zru B ER TP CF GC qR ZeL,mg_of X G Zoj,ZjE,Zyz⟩⟩
 have ZAT:=ZAm.binds (ps:=Yo) fun _ _ _ _ _ _ us hl=>by obtain ⟨_,rfl⟩:=us1 hl;exact rfl
 have zy:FnX l.prog w K mg base 1 "number_in" Yo (ze K ⟨ZC,ZQ,0,ZF,0,0,ZZ,ZG,ZP⟩):=⟨⟨JQ,_,Zff ZAm B ER TP CF GC,mg_of X G ZuY,Zqz,ZAT⟩⟩
 have ZxV:=ZrK.binds (ps:=Jm) fun _ _ _ _ _ _ us hl=>by obtain ⟨_,rfl⟩:=us1 hl;exact rfl
 have Zbi:FnX l.prog w K mg base 2 "read_row" Jm (qA K ⟨ZC,ZQ,0,ZF,0,0,ZZ,ZG,ZP⟩):=⟨⟨Zab,_,Zfx ZrK B ER TP CF GC zy,mg_of X G Znq,ZjS,ZxV⟩⟩
 have Zyi:=ZrJ.binds (ps:=JY) fun _ _ _ _ _ _ us hl=>by obtain ⟨_,rfl⟩:=us1 hl;exact rfl
 have ZbW:Fn l.prog w K mg base 1 "is_name" JY (Jp K):=⟨⟨ZaI,_,Zga ZrJ B ER TP CF GC,mg_of X G Zmf,Zja,Zyi⟩⟩
 have ZyD:=Zrn.binds (ps:=YU) fun _ _ _ _ _ _ us hl=>by obtain ⟨_,_,rfl⟩:=us2 hl;exact rfl
 have J2:FnX l.prog w K mg base 2 "check_names" YU (Yy K ⟨ZC,ZQ,0,ZF,0,0,ZZ,ZG,ZP⟩):=⟨⟨qL,_,Zdk Zrn B ER TP CF GC ZbW,mg_of X G Zoy,Zkj,ZyD⟩⟩
 have Zzy:=Zq7.binds (ps:=YX) fun _ _ _ _ _ _ us hl=>by obtain ⟨_,_,_,rfl⟩:=us3 hl;exact rfl
 have Y1:FnX l.prog w K mg base 1 "keep_text" YX (zZ K ⟨ZC,ZQ,0,ZF,0,0,ZZ,ZG,ZP⟩):=⟨⟨JS,_,Zep Zq7 B ER TP CF GC,mg_of X G Znk,Zjh,Zzy⟩⟩
 have ZxR:=Zq3.binds (ps:=YK) fun _ _ _ _ _ _ us hl=>by obtain ⟨_,_,rfl⟩:=us2 hl;exact rfl
 have J1:FnX l.prog w K mg base 2 "answer_keep" YK (zn K ⟨ZC,ZQ,0,ZF,0,0,ZZ,ZG,ZP⟩):=⟨⟨YN,_,ZdA Zq3 B ER TP CF GC Y1,mg_of X G Zj2,Zi7,ZxR⟩⟩
 have ZBg:=Zz3.binds (ps:=zi) fun _ _ _ _ _ _ us hl=>by obtain ⟨_,_,rfl⟩:=us2 hl;exact rfl
 have ZW:FnX l.prog w K mg base 1 "check_place" zi (ZY K ⟨ZC,ZQ,0,ZF,0,0,ZZ,ZG,ZP⟩):=⟨⟨qN,_,Zdx Zz3 B ER TP CF GC,mg_of X G Ztg,ZqG,ZBg⟩⟩
 have ZA6:=ZAt.binds (ps:=JT) fun _ _ _ _ _ _ us hl=>by obtain ⟨_,rfl⟩:=us1 hl;exact rfl
 have ZbO:Fn l.prog w K mg base 1 "runs_of" JT (Jj K):=⟨⟨ZaJ,_,ZgT ZAt B ER TP CF GC,mg_of X G ZuO,Zqc,ZA6⟩⟩
 have ZAO:=Zz8.binds (ps:=JH) fun _ _ _ _ _ _ us hl=>by obtain ⟨_,_,rfl⟩:=us2 hl;exact rfl
 have JM:FnX l.prog w K mg base 2 "packed" JH (qb K ⟨ZC,ZQ,0,ZF,0,0,ZZ,ZG,ZP⟩):=⟨⟨Zbl,_,ZhG Zz8 B ER TP CF GC ZW ZbO,mg_of X G Zsc,Zqe,ZAO⟩⟩
 have ZAS:=ZyW.binds (ps:=qD) fun _ _ _ _ _ _ us hl=>by obtain ⟨_,rfl⟩:=us1 hl;exact rfl
 have ZaR:FnX l.prog w K mg base 2 "read_runs" qD (qi K ⟨ZC,ZQ,0,ZF,0,0,ZZ,ZG,ZP⟩):=⟨⟨JN,_,Zfk ZyW B ER TP CF GC zy,mg_of X G Zv7,Zqm,ZAS⟩⟩
 have ZBf:=ZAa.binds (ps:=Jw) fun _ _ _ _ _ _ us hl=>by obtain ⟨_,rfl⟩:=us1 hl;exact rfl
 have Zbp:FnX l.prog w K mg base 3 "unpacked" Jw (qI K ⟨ZC,ZQ,0,ZF,0,0,ZZ,ZG,ZP⟩):=⟨⟨Zac,_,ZfB ZAa B ER TP CF GC zy JM ZaR,mg_of X G Zxr,Zp7,ZBf⟩⟩
 have ZAl:=Zq8.binds (ps:=zS) fun _ _ _ _ _ _ us hl=>by obtain ⟨_,_,_,rfl⟩:=us3 hl;exact rfl
 have MK_Letters:Mkr l.prog w K mg base (CX1 l.prog w) 3 "Letters" Zc zS [] (zh K ⟨ZC,ZQ,0,ZF,0,0,ZZ,ZG,ZP⟩ Zc Zd):=⟨⟨YB,_,[],ZcG Zq8 B LM_m_Letters_init rfl ER TP CF GC ZW,⟨mk_Letters,ZmT,Znx,kc_Letters⟩,ZAl,.nil⟩,mg_of X G aC_Letters⟩
 have Zzp:=ZrW.binds (ps:=zp) fun _ _ _ _ _ _ us hl=>by obtain ⟨_,_,rfl⟩:=us2 hl;exact rfl
 have M_m_Letters_letter:Md l.prog w K mg base (CX1 l.prog w) 2 Zc "letter" zp [] (Z6 K ⟨ZC,ZQ,0,ZF,0,0,ZZ,ZG,ZP⟩ Zc):=⟨⟨zY,_,[],Zcb ZrW B ER TP CF GC ZW,⟨Zoz,Zl0,Zjg⟩,Zzp,.nil⟩,CF.cl_Letters⟩
 have ZAW:=Zz7.binds (ps:=YC) fun _ _ _ _ _ _ us hl=>by obtain ⟨_,_,rfl⟩:=us2 hl;exact rfl
 have JF:Fn l.prog w K mg base 1 "comes_before" YC (Yj K):=⟨⟨qr,_,ZcY Zz7 B ER TP CF GC,mg_of X G ZwH,Zqw,ZAW⟩⟩
 have Zx6:=Zrl.binds (ps:=Yi) fun _ _ _ _ _ _ us hl=>by obtain ⟨_,_,rfl⟩:=us2 hl;exact rfl
 have M_m_Letters_first:Md l.prog w K mg base CX0 2 Zc "first" Yi [] (zU K Zc):=⟨⟨Yk,_,[],Zcs Zrl B ER TP CF GC JF,⟨ZlR,Zog,Zjl⟩,Zx6,.nil⟩,CF.cl_Letters⟩
 have Zza:=ZqY.binds (ps:=zX) fun _ _ _ _ _ _ us hl=>by obtain ⟨_,_,_,rfl⟩:=us3 hl;exact rfl
 have M_m_Letters_before:Md l.prog w K mg base (CX1 l.prog w) 2 Zc "before" zX [] (zK K ⟨ZC,ZQ,0,ZF,0,0,ZZ,ZG,ZP⟩ Zc):=⟨⟨zW,_,[],Zci ZqY B ER TP CF GC ZW,⟨Zns,ZoQ,ZjT⟩,Zza,.nil⟩,CF.cl_Letters⟩
 have Zy9:=Zrb.binds (ps:=zB) fun _ _ _ _ _ _ us hl=>by obtain ⟨_,_,_,rfl⟩:=us3 hl;exact rfl
 have M_m_Letters_row_with:Md l.prog w K mg base (CX1 l.prog w) 3 Zc "row_with" zB [] (zj K ⟨ZC,ZQ,0,ZF,0,0,ZZ,ZG,ZP⟩ Zc):=⟨⟨zA,_,[],Zbu Zrb B ER TP CF GC M_m_Letters_first M_m_Letters_before,⟨ZnC,ZmF,Zje⟩,Zy9,.nil⟩,CF.cl_Letters⟩
 have Zx2:=ZqZ.binds (ps:=Yw) fun _ _ _ _ _ _ us hl=>by obtain ⟨_,_,rfl⟩:=us2 hl;exact rfl
 have M_m_Letters_back:Md l.prog w K mg base (CX1 l.prog w) 4 Zc "back" Yw [] (Yh K ⟨ZC,ZQ,0,ZF,0,0,ZZ,ZG,ZP⟩ Zc):=⟨⟨Yz,_,[],Zdc ZqZ B ER TP CF GC M_m_Letters_letter M_m_Letters_row_with,⟨ZnP,ZlF,Zjy⟩,Zx2,.nil⟩,CF.cl_Letters⟩
 have ZA9:=Zx8.binds (ps:=JX) fun _ _ _ _ _ _ us hl=>by obtain ⟨_,_,rfl⟩:=us2 hl;exact rfl
 have ZbQ:FnX l.prog w K mg base 5 "road_of" JX (Jy K ⟨ZC,ZQ,0,ZF,0,0,ZZ,ZG,ZP⟩ Zc Zd):=⟨⟨ZaA,_,Zgb Zx8 B ER TP CF GC MK_Letters M_m_Letters_back,mg_of X G ZtI,Zp4,ZA9⟩⟩
 have ZzQ:=ZrU.binds (ps:=qC) fun _ _ _ _ _ _ us hl=>by obtain ⟨_,_,rfl⟩:=us2 hl;exact rfl
 have ZaP:FnX l.prog w K mg base 6 "read_back" qC (qf K ⟨ZC,ZQ,0,ZF,0,0,ZZ,ZG,ZP⟩ Zc Zd):=⟨⟨JP,_,Ze4 ZrU B ER TP CF GC ZbQ MK_Letters M_m_Letters_letter,mg_of X G Zpg,Zjc,ZzQ⟩⟩
 have Zzs:=Zrj.binds (ps:=YV) fun _ _ _ _ _ _ us hl=>by obtain ⟨_,_,rfl⟩:=us2 hl;exact rfl
 have J4:FnX l.prog w K mg base 7 "answer_load" YV (zu K ⟨ZC,ZQ,0,ZF,0,0,ZZ,ZG,ZP⟩ Zc Zd):=⟨⟨YL,_,ZdJ Zrj B ER TP CF GC Zbp ZaP Y1,mg_of X G ZjV,Zjm,Zzs⟩⟩
 have ZyL:=Zrm.binds (ps:=YM) fun _ _ _ _ _ _ us hl=>by obtain ⟨_,_,rfl⟩:=us2 hl;exact rfl
 have J7:FnX l.prog w K mg base 1 "answer_text" YM (zq K ⟨ZC,ZQ,0,ZF,0,0,ZZ,ZG,ZP⟩):=⟨⟨YO,_,ZdD Zrm B ER TP CF GC,mg_of X G Zj5,ZjC,ZyL⟩⟩
 have ZBh:=ZxT.binds (ps:=Jv) fun _ _ _ _ _ _ us hl=>by obtain ⟨_,rfl⟩:=us1 hl;exact rfl
 have Zbm:Fn l.prog w K mg base 3 "order_of" Jv (qB K Zg):=⟨⟨Zad,_,ZfA ZxT B LM_p_order_of rfl ER TP CF GC,mg_of X G Zu0,Zqr,ZBh⟩⟩
 have ZAP:=ZyG.binds (ps:=Yt) fun _ _ _ _ _ _ us hl=>by obtain ⟨_,rfl⟩:=us1 hl;exact rfl
 have JL:Fn l.prog w K mg base 4 "last_letters" Yt (Yg K Zg):=⟨⟨qo,_,Zc8 ZyG B ER TP CF GC Zbm,mg_of X G Zv2,Zp9,ZAP⟩⟩
 have ZzN:=ZrF.binds (ps:=YR) fun _ _ _ _ _ _ us hl=>by obtain ⟨_,_,rfl⟩:=us2 hl;exact rfl
 have J0:FnX l.prog w K mg base 5 "answer_pack" YR (zx K ⟨ZC,ZQ,0,ZF,0,0,ZZ,ZG,ZP⟩ Zg):=⟨⟨YJ,_,Zdu ZrF B ER TP CF GC JL JM,mg_of X G Zkn,Zjs,ZzN⟩⟩
 have ZzV:=Zrv.binds (ps:=Jh) fun _ _ _ _ _ _ us hl=>by obtain ⟨_,_,rfl⟩:=us2 hl;exact rfl
 have M_m_Desk_say:Md l.prog w K mg base (CX1 l.prog w) 8 Zm "say" Jh [] (qJ K ⟨ZC,ZQ,0,ZF,0,0,ZZ,ZG,ZP⟩ Zc Zm Zd Zg):=⟨⟨Js,_,[],ZfC Zrv B ER TP CF GC Zbi J2 J1 J4 J7 J0,⟨ZlE,Znb,Zka⟩,ZzV,.nil⟩,CF.cl_Desk⟩
 have Zyb:=ZrI.binds (ps:=Zao) fun _ _ _ _ _ _ us hl=>by obtain ⟨_,_,rfl⟩:=us2 hl;exact rfl
 have ql:Fn l.prog w K mg base 9 "_law_said" Zao (Ys K Zc Zm Zd Zg):=⟨⟨ZcR,_,Zkz ZrI B ER TP CF GC M_m_Desk_say,mg_of X G ZlO,ZjK,Zyb⟩⟩
 have ZAB:=Zre.binds (ps:=qd) fun _ _ _ _ _ _ us hl=>by obtain ⟨_,_,rfl⟩:=us2 hl;exact rfl
 have zN:Fn l.prog w K mg base 1 "_law_is_said" qd (zz K):=⟨⟨Zay,_,Zgl Zre B ER TP CF GC,mg_of X G ZlA,Zjb,ZAB⟩⟩
 have Zyr:=Zrk.binds (ps:=Zbz) fun _ _ _ _ _ _ us hl=>by obtain ⟨_,rfl⟩:=us1 hl;exact rfl
 have Zc0:Fn l.prog w K mg base 1 "_law_name" Zbz (Za7 K):=⟨⟨Zc3,_,ZkV Zrk B ER TP CF GC,mg_of X G Zl5,ZjO,Zyr⟩⟩
 have ZzK:=Zry.binds (ps:=ZaW) fun _ _ _ _ _ _ us hl=>by obtain ⟨_,rfl⟩:=us1 hl;exact rfl
 have Zdm:Fn l.prog w K mg base 3 "_law_order" ZaW (Zar K Zt):=⟨⟨Zb8,_,Zio Zry B LM_w_order rfl ER TP CF GC,mg_of X G ZlW,Zjp,ZzK⟩⟩
 have ZxX:=Zq2.binds (ps:=Zba) fun _ _ _ _ _ _ us hl=>by obtain ⟨_,rfl⟩:=us1 hl;exact rfl
 have Za6:Fn l.prog w K mg base 4 "_law_last" Zba (JB K Zt):=⟨⟨Zc9,_,ZkG Zq2 B ER TP CF GC Zdm,mg_of X G ZnJ,ZjB,ZxX⟩⟩
 have Zzc:=ZrH.binds (ps:=qg) fun _ _ _ _ _ _ us hl=>by obtain ⟨_,_,rfl⟩:=us2 hl;exact rfl
 have Yl:Fn l.prog w K mg base 1 "_law_written" qg (zM K):=⟨⟨ZaB,_,ZgX ZrH B ER TP CF GC,mg_of X G ZlQ,Zke,Zzc⟩⟩
 have Zyc:=Zrw.binds (ps:=Jq) fun _ _ _ _ _ _ us hl=>by obtain ⟨_,_,_,rfl⟩:=us3 hl;exact rfl
 have Zbf:Fn l.prog w K mg base 10 "_law_all_told" Jq (qH K Zc Zm Zt Zd Zg):=⟨⟨Zag,_,Zfz Zrw B ER TP CF GC Za6 Yl ql zN,mg_of X G ZmD,Zj6,Zyc⟩⟩
 have Zzd:=Zrp.binds (ps:=ZbV) fun _ _ _ _ _ _ us hl=>by obtain ⟨_,_,_,rfl⟩:=us3 hl;exact rfl
 have Ze5:Fn l.prog w K mg base 1 "_law_back" ZbV (Za4 K):=⟨⟨ZcD,_,ZkL Zrp B ER TP CF GC,mg_of X G ZnF,Zkc,Zzd⟩⟩
 have ZzE:=ZrQ.binds (ps:=ZbI) fun _ _ _ _ _ _ us hl=>by obtain ⟨_,_,rfl⟩:=us2 hl;exact rfl
 have ZeB:Fn l.prog w K mg base 2 "_law_read" ZbI (ZaT K):=⟨⟨Zda,_,Zk0 ZrQ B ER TP CF GC Ze5,mg_of X G Zm1,ZjM,ZzE⟩⟩
 have ZzP:=ZqX.binds (ps:=Zdb) fun _ _ _ _ _ _ us hl=>by obtain ⟨_,_,_,_,rfl⟩:=us4 hl;exact rfl
 have ZgW:Fn l.prog w K mg base 2 "_law_bad" Zdb (ZbH K):=⟨⟨Zd8,_,Zpw ZqX B ER TP CF GC Yl,mg_of X G Zmx,Zi9,ZzP⟩⟩
 have ZzH:=Zq9.binds (ps:=ZbZ) fun _ _ _ _ _ _ us hl=>by obtain ⟨_,_,_,_,_,rfl⟩:=us5 hl;exact rfl
 have ZeK:Fn l.prog w K mg base 10 "_law_load" ZbZ (ZaX K Zc Zm Zt Zd Zg):=⟨⟨Zdd,_,ZkO Zq9 B ER TP CF GC qR Za6 Yl ZeB ql zN ZgW,mg_of X G ZmV,Zjz,ZzH⟩⟩
 have Zy1:=Zq5.binds (ps:=qE) fun _ _ _ _ _ _ us hl=>by obtain ⟨_,rfl⟩:=us1 hl;exact rfl
 have MK_Desk:Mkr l.prog w K mg base CX0 1 "Desk" Zm qE [] (qk K Zm):=⟨⟨qK,_,[],Ze0 Zq5 B ER TP CF GC,⟨mk_Desk,Zpc,ZoE,kc_Desk⟩,Zy1,.nil⟩,mg_of X G aC_Desk⟩
 exact Zwp Zyp B ER TP CF GC Je ZaE ql zN Zc0 Zbf ZeK MK_Desk
theorem ZA3 {l:PySem.W.OpenLaw} {q:Program} {loose:List Str} {XP:(Str->Option Value)->Heap->Prop} {YP:World->Heap->Prop} {d:DefRec} {K:Params->PySem.W.Frag} {ts:List Addr} (Zd Zg Zt:Addr) (hn:l.most=some 63) (hdf:d.params.defaults=[])
 (hY:∀(w:World) (h:Heap),YP w h->(K w.params).In h/\∀p∈ts,h.get? p=some (tabObj #[]))
 (F:∀(w:World) (mg:Str->Option Value) (fa:Addr) (h:Heap),(K w.params).In h->h.Ns mainGlobals mg->mg d.name=some (.ref fa)->
  (∀p∈ts,(K w.params).lookup p=none/\∃c,codeHdIn (K w.params) c p=true)/\∃fd:FuncData,(∀(s:Shared) (u:Value),BindsTo s fd ⟨[u],[]⟩ [("_law_script",u)])/\∀base:Heap,(K w.params).In base->base.Ns mainGlobals mg->ZyM mg base->Z4 l.prog w (K w.params) mg base CX0 11 fa fd ZjP (ZgU (K w.params) Zd Zg Zt))
 (m_m_Letters_init:Zd∈ts) (m_p_order_of:Zg∈ts) (m_w_order:Zt∈ts) (ne_m_Letters_init_p_order_of:Zd≠Zg) (ne_m_Letters_init_w_order:Zd≠Zt) (ne_p_order_of_w_order:Zg≠Zt):
 PySem.W.WalkO q loose XP YP l.row.toRowW d [] (fun f vs=>PySem.call f vs):=
 L2.Zmo (n:=63) (k:=11) (x:="_law_script") (ts:=ts) (CX:=fun _=>CX0) (sp:=fun w=>ZgU (K w.params) Zd Zg Zt) hn (by decide) hdf ⟨rfl,by decide,by decide⟩ hY F (fun _ H a ns hl hS hT=>⟨a,ns,rfl,hS,hl,.inl (hT _ m_m_Letters_init),.inl (hT _ m_p_order_of),.inl (hT _ m_w_order),ne_m_Letters_init_p_order_of,ne_m_Letters_init_w_order,ne_p_order_of_w_order,fun _=>rfl⟩) fun _ _ _ _ _ z=>z
end My
open PySem PySem.W PyProof.Rows
set_option maxRecDepth 100000 in
set_option maxHeartbeats 0 in
theorem PySem.Challenge.cw_backindex_k92_desk_loads_holds : PySem.Challenge.rw_backindex_k92_desk_loads.Holds := by
 w_on;o_law;k_head;(case hw=>w_witness2)
 k_fill
 refine' My.ZA3 (l:=PySem.Challenge.rw_backindex_k92_desk_loads) ?Zd ?Zg ?Zt rfl rfl (fun w h Y=>⟨PySem.W.km_in_of Y,PySem.W.km_tabs_of Y⟩) ?F ?m_m_Letters_init ?m_p_order_of ?m_w_order ?ne_m_Letters_init_p_order_of ?ne_m_Letters_init_w_order ?ne_p_order_of_w_order
 case F=>
  intro w mg fa h KX G hmg
  refine' My.ZuE KX G hmg ?Ztg ?Zu3 ?ZuM ?ZqG ?ZuY ?ZwX ?Zsz ?Zqz ?Zu0 ?ZsR ?ZwP ?Zqr ?t_p_order_of ?Zzl ?ZqJ ?ZsU ?ZwH ?ZxI ?ZvS ?Zqw ?Zv2 ?ZwF ?ZsW ?Zp9 ?ZuO ?ZtZ ?Zwr ?Zqc ?Zsc ?ZvN ?Zv3 ?Zqe ?Zv7 ?Zxv ?Zvq ?Zqm ?Zxr ?ZwW ?ZvW ?Zp7 ?ZtI ?Zsb ?Zr5 ?Zp4 ?Zpg ?ZnX ?ZnG ?Zjc ?Znq ?Zox ?Znh ?ZjS ?Zmf ?Znw ?Znp ?Zja ?Zoy ?ZnW ?Znn ?Zkj ?Znk ?ZmO ?Zpo ?Zjh ?Zj2 ?Znr ?ZlP ?Zi7 ?ZjV ?Zl9 ?ZmR ?Zjm ?Zj5 ?ZlL ?ZlY ?ZjC ?Zkn ?Zmw ?ZoO ?Zjs ?Zmt ?ZnV ?Zpj ?ZjA ?Zlx ?ZoV ?Zn7 ?ZjY ?ZmW ?Zmi ?Zob ?ZjW ?Zoj ?Zni ?ZmZ ?ZjE ?ZlW ?Zmu ?ZoT ?Zjp ?t_w_order ?Zq6 ?Zju ?Zo5 ?ZnJ ?Zo6 ?Zo1 ?ZjB ?ZnF ?ZnY ?Zme ?Zkc ?ZlQ ?ZoH ?ZoP ?Zke ?Zm1 ?Zmm ?ZnN ?ZjM ?ZlO ?Zpe ?Zpy ?ZjK ?ZlA ?Zo2 ?Zph ?Zjb ?Zmx ?ZmJ ?Zm0 ?Zi9 ?Zl5 ?ZoF ?ZmE ?ZjO ?ZmD ?Znd ?ZoM ?Zj6 ?ZmV ?Zon ?Zn1 ?Zjz ?Zpu ?ZmN ?Zol ?Zne ?ZmT ?Znx ?Zmj ?ZoI ?Zo7 ?t_m_Letters_init ?Zrc ?ZjI ?Zpb ?Zoz ?Zl0 ?ZoZ ?Zm9 ?Zjg ?ZlR ?Zog ?Zps ?Zoe ?Zjl ?Zns ?ZoQ ?Zng ?Zpq ?ZjT ?ZnC ?ZmF ?ZmI ?Zok ?Zje ?ZnP ?ZlF ?ZnK ?ZnU ?Zjy ?Zpc ?ZoE ?ZlT ?Znc ?Zov ?ZlE ?Znb ?Zoq ?ZlU ?Zka ?m_BackError ?x_BackError ?m_NoPlace ?x_NoPlace ?m_NoText ?x_NoText ?g1_NoText ?g2_NoText ?g3_NoText ?g4_NoText ?g5_NoText ?g6_NoText ?g7_NoText ?v_NoText ?m_TooLong ?x_TooLong ?m_NoName ?x_NoName ?g1_NoName ?g2_NoName ?g3_NoName ?g4_NoName ?g5_NoName ?g6_NoName ?g7_NoName ?v_NoName ?m_NoRow ?x_NoRow ?g1_NoRow ?g2_NoRow ?g3_NoRow ?g4_NoRow ?g5_NoRow ?g6_NoRow ?g7_NoRow ?v_NoRow ?r_NoText_BackError ?t_NoText_NoPlace ?t_NoText_NoText ?t_NoText_NoName ?t_NoText_NoRow ?r_NoName_BackError ?t_NoName_NoPlace ?t_NoName_NoText ?t_NoName_NoName ?t_NoName_NoRow ?r_NoRow_BackError ?t_NoRow_NoPlace ?t_NoRow_NoText ?t_NoRow_NoName ?t_NoRow_NoRow ?aC_Letters ?pg_Letters ?hd_Letters ?po_Letters ?sa_Letters ?mk_Letters ?kc_Letters ?na_Letters_column ?na_Letters_forths ?na_Letters_home ?na_Letters_last ?na_Letters_totals ?aC_Desk ?pg_Desk ?hd_Desk ?po_Desk ?sa_Desk ?mk_Desk ?kc_Desk ?na_Desk_texts ?gc_MOST_SIGNS ?gc_NO_LETTER ?b_FORMS ?d_FORMS ?b_KEEPING ?d_KEEPING ?b_ANSWERS ?d_ANSWERS ?z_ValueError ?z_dict ?z_int ?z_isinstance ?z_len ?z_list ?z_range ?z_reversed ?z_set ?z_sorted ?z_str ?z_sum ?z_zip ?hts
  (case aC_Letters=>k_is)
  (case aC_Desk=>k_is)
  (case Ztg=>k_is)
  (case Zu3=>k_is)
  (case ZuM=>k_is)
  (case ZqG=>k_is)
  (case ZuY=>k_is)
  (case ZwX=>k_is)
  (case Zsz=>k_is)
  (case Zqz=>k_is)
  (case Zu0=>k_is)
  (case ZsR=>k_is)
  (case ZwP=>k_is)
  (case Zqr=>k_is)
  (case t_p_order_of=>k_is)
  (case Zzl=>rfl)
  (case ZqJ=>kernel_rfl)
  (case ZsU=>rfl)
  (case ZwH=>k_is)
  (case ZxI=>k_is)
  (case ZvS=>k_is)
  (case Zqw=>k_is)
  (case Zv2=>k_is)
  (case ZwF=>k_is)
  (case ZsW=>k_is)
  (case Zp9=>k_is)
  (case ZuO=>k_is)
  (case ZtZ=>k_is)
  (case Zwr=>k_is)
  (case Zqc=>k_is)
  (case Zsc=>k_is)
  (case ZvN=>k_is)
  (case Zv3=>k_is)
  (case Zqe=>k_is)
  (case Zv7=>k_is)
  (case Zxv=>k_is)
  (case Zvq=>k_is)
  (case Zqm=>k_is)
  (case Zxr=>k_is)
  (case ZwW=>k_is)
  (case ZvW=>k_is)
  (case Zp7=>k_is)
  (case ZtI=>k_is)
  (case Zsb=>k_is)
  (case Zr5=>k_is)
  (case Zp4=>k_is)
  (case Zpg=>k_is)
  (case ZnX=>k_is)
  (case ZnG=>k_is)
  (case Zjc=>k_is)
  (case Znq=>k_is)
  (case Zox=>k_is)
  (case Znh=>k_is)
  (case ZjS=>k_is)
  (case Zmf=>k_is)
  (case Znw=>k_is)
  (case Znp=>k_is)
  (case Zja=>k_is)
  (case Zoy=>k_is)
  (case ZnW=>k_is)
  (case Znn=>k_is)
  (case Zkj=>k_is)
  (case Znk=>k_is)
  (case ZmO=>k_is)
  (case Zpo=>k_is)
  (case Zjh=>k_is)
  (case Zj2=>k_is)
  (case Znr=>k_is)
  (case ZlP=>k_is)
  (case Zi7=>k_is)
  (case ZjV=>k_is)
  (case Zl9=>k_is)
  (case ZmR=>k_is)
  (case Zjm=>k_is)
  (case Zj5=>k_is)
  (case ZlL=>k_is)
  (case ZlY=>k_is)
  (case ZjC=>k_is)
  (case Zkn=>k_is)
  (case Zmw=>k_is)
  (case ZoO=>k_is)
  (case Zjs=>k_is)
  (case Zmt=>k_is)
  (case ZnV=>k_is)
  (case Zpj=>k_is)
  (case ZjA=>k_is)
  (case Zlx=>k_is)
  (case ZoV=>k_is)
  (case Zn7=>k_is)
  (case ZjY=>k_is)
  (case ZmW=>k_is)
  (case Zmi=>k_is)
  (case Zob=>k_is)
  (case ZjW=>k_is)
  (case Zoj=>k_is)
  (case Zni=>k_is)
  (case ZmZ=>k_is)
  (case ZjE=>k_is)
  (case ZlW=>k_is)
  (case Zmu=>k_is)
  (case ZoT=>k_is)
  (case Zjp=>k_is)
  (case t_w_order=>k_is)
  (case Zq6=>rfl)
  (case Zju=>kernel_rfl)
  (case Zo5=>rfl)
  (case ZnJ=>k_is)
  (case Zo6=>k_is)
  (case Zo1=>k_is)
  (case ZjB=>k_is)
  (case ZnF=>k_is)
  (case ZnY=>k_is)
  (case Zme=>k_is)
  (case Zkc=>k_is)
  (case ZlQ=>k_is)
  (case ZoH=>k_is)
  (case ZoP=>k_is)
  (case Zke=>k_is)
  (case Zm1=>k_is)
  (case Zmm=>k_is)
  (case ZnN=>k_is)
  (case ZjM=>k_is)
  (case ZlO=>k_is)
  (case Zpe=>k_is)
  (case Zpy=>k_is)
  (case ZjK=>k_is)
  (case ZlA=>k_is)
  (case Zo2=>k_is)
  (case Zph=>k_is)
  (case Zjb=>k_is)
  (case Zmx=>k_is)
  (case ZmJ=>k_is)
  (case Zm0=>k_is)
  (case Zi9=>k_is)
  (case Zl5=>k_is)
  (case ZoF=>k_is)
  (case ZmE=>k_is)
  (case ZjO=>k_is)
  (case ZmD=>k_is)
  (case Znd=>k_is)
  (case ZoM=>k_is)
  (case Zj6=>k_is)
  (case ZmV=>k_is)
  (case Zon=>k_is)
  (case Zn1=>k_is)
  (case Zjz=>k_is)
  (case Zpu=>k_is)
  (case ZmN=>k_is)
  (case Zol=>k_is)
  (case Zne=>k_is)
  (case ZmT=>k_is)
  (case Znx=>k_is)
  (case Zmj=>k_is)
  (case ZoI=>k_is)
  (case Zo7=>k_is)
  (case t_m_Letters_init=>k_is)
  (case Zrc=>rfl)
  (case ZjI=>kernel_rfl)
  (case Zpb=>rfl)
  (case Zoz=>k_is)
  (case Zl0=>k_is)
  (case ZoZ=>k_is)
  (case Zm9=>k_is)
  (case Zjg=>k_is)
  (case ZlR=>k_is)
  (case Zog=>k_is)
  (case Zps=>k_is)
  (case Zoe=>k_is)
  (case Zjl=>k_is)
  (case Zns=>k_is)
  (case ZoQ=>k_is)
  (case Zng=>k_is)
  (case Zpq=>k_is)
  (case ZjT=>k_is)
  (case ZnC=>k_is)
  (case ZmF=>k_is)
  (case ZmI=>k_is)
  (case Zok=>k_is)
  (case Zje=>k_is)
  (case ZnP=>k_is)
  (case ZlF=>k_is)
  (case ZnK=>k_is)
  (case ZnU=>k_is)
  (case Zjy=>k_is)
  (case Zpc=>k_is)
  (case ZoE=>k_is)
  (case ZlT=>k_is)
  (case Znc=>k_is)
  (case Zov=>k_is)
  (case ZlE=>k_is)
  (case Znb=>k_is)
  (case Zoq=>k_is)
  (case ZlU=>k_is)
  (case Zka=>k_is)
  (case m_BackError=>k_is)
  (case x_BackError=>k_exc)
  (case m_NoPlace=>k_is)
  (case x_NoPlace=>k_exc)
  (case m_NoText=>k_is)
  (case x_NoText=>k_exc)
  (case g1_NoText=>k_is)
  (case g2_NoText=>k_is)
  (case g3_NoText=>k_is)
  (case g4_NoText=>k_is)
  (case g5_NoText=>k_is)
  (case g6_NoText=>k_is)
  (case g7_NoText=>k_is)
  (case v_NoText=>kit_is)
  (case m_TooLong=>k_is)
  (case x_TooLong=>k_exc)
  (case m_NoName=>k_is)
  (case x_NoName=>k_exc)
  (case g1_NoName=>k_is)
  (case g2_NoName=>k_is)
  (case g3_NoName=>k_is)
  (case g4_NoName=>k_is)
  (case g5_NoName=>k_is)
  (case g6_NoName=>k_is)
  (case g7_NoName=>k_is)
  (case v_NoName=>kit_is)
  (case m_NoRow=>k_is)
  (case x_NoRow=>k_exc)
  (case g1_NoRow=>k_is)
  (case g2_NoRow=>k_is)
  (case g3_NoRow=>k_is)
  (case g4_NoRow=>k_is)
  (case g5_NoRow=>k_is)
  (case g6_NoRow=>k_is)
  (case g7_NoRow=>k_is)
  (case v_NoRow=>kit_is)
  (case r_NoText_BackError=>k_is)
  (case t_NoText_NoPlace=>kit_is)
  (case t_NoText_NoText=>kit_is)
  (case t_NoText_NoName=>kit_is)
  (case t_NoText_NoRow=>kit_is)
  (case r_NoName_BackError=>k_is)
  (case t_NoName_NoPlace=>kit_is)
  (case t_NoName_NoText=>kit_is)
  (case t_NoName_NoName=>kit_is)
  (case t_NoName_NoRow=>kit_is)
  (case r_NoRow_BackError=>k_is)
  (case t_NoRow_NoPlace=>kit_is)
  (case t_NoRow_NoText=>kit_is)
  (case t_NoRow_NoName=>kit_is)
  (case t_NoRow_NoRow=>kit_is)
  (case pg_Letters=>k_is)
  (case hd_Letters=>k_is)
  (case po_Letters=>k_is)
  (case sa_Letters=>k_is)
  (case mk_Letters=>k_is)
  (case kc_Letters=>k_is)
  (case na_Letters_column=>k_is)
  (case na_Letters_forths=>k_is)
  (case na_Letters_home=>k_is)
  (case na_Letters_last=>k_is)
  (case na_Letters_totals=>k_is)
  (case pg_Desk=>k_is)
  (case hd_Desk=>k_is)
  (case po_Desk=>k_is)
  (case sa_Desk=>k_is)
  (case mk_Desk=>k_is)
  (case kc_Desk=>k_is)
  (case na_Desk_texts=>k_is)
  (case gc_MOST_SIGNS=>k_is)
  (case gc_NO_LETTER=>k_is)
  (case b_FORMS=>k_is)
  (case d_FORMS=>exact ⟨⟨_,_,by k_is,by k_keys,by repeat (first|exact True.intro|refine ⟨⟨_,rfl⟩,?_,?_⟩|exact ⟨_,rfl⟩|rfl)⟩,by decide⟩)
  (case b_KEEPING=>k_is)
  (case d_KEEPING=>exact ⟨_,_,_,by k_is,rfl,rfl,by decide,.cons ⟨_,rfl⟩ (.cons ⟨_,rfl⟩ (.nil))⟩)
  (case b_ANSWERS=>k_is)
  (case d_ANSWERS=>exact ⟨⟨_,_,by k_is,by k_keys,by repeat (first|exact True.intro|refine ⟨⟨_,rfl⟩,?_,?_⟩|exact ⟨_,rfl⟩|rfl)⟩,by decide⟩)
  (case z_ValueError=>k_is)
  (case z_dict=>k_is)
  (case z_int=>k_is)
  (case z_isinstance=>k_is)
  (case z_len=>k_is)
  (case z_list=>k_is)
  (case z_range=>k_is)
  (case z_reversed=>k_is)
  (case z_set=>k_is)
  (case z_sorted=>k_is)
  (case z_str=>k_is)
  (case z_sum=>k_is)
  (case z_zip=>k_is)
  (case hts=>decide)
 (case m_m_Letters_init=>decide)
 (case m_p_order_of=>decide)
 (case m_w_order=>decide)
 (case ne_m_Letters_init_p_order_of=>decide)
 (case ne_m_Letters_init_w_order=>decide)
 (case ne_p_order_of_w_order=>decide)
