"""Left-hand fingerings of lute pieces; the calls are in lutefingers.hands."""
