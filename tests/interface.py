"""The interface as the document lists it: of each file its functions and classes, with their arguments."""

FUNCTIONS = {
    "kinds": ["is_number(thing)", "is_word(thing)", "is_signs(thing)", "is_value(thing)", "is_key(thing)",
              "is_name(thing)", "are_names(thing)", "is_level(thing)", "is_version(thing)", "reaches(one, other)"],
    "deeds": ["key_of(deed)", "doc_of(deed)", "is_ahead(one, other)", "in_order(deeds)", "knew_it(deed, key)"],
    "needs": ["needs(word)"],
    "naming": ["things_of(deed)"],
    "lines": ["shown_what(what)", "shown_version(version)", "shown_deed(deed)", "shown_book(book)"],
    "words": ["index(view)", "spots_of(view, word)"],
    "spotchecker": ["lets_spots(view, word, thing)"],
}

CLASSES = {
    "errors": {
        "CoeditError": [], "PaperError": [], "HouseError": [], "TextError": [],
        "NoPaper": ["__init__(self, word, at)"], "NoDeed": ["__init__(self, word)"],
        "NoKey": ["__init__(self, key)"], "NoCopy": ["__init__(self, hand)"], "NoBack": ["__init__(self, times)"],
        "NoText": ["__init__(self, line, word)"], "NoLine": ["__init__(self, line)"],
    },
}
