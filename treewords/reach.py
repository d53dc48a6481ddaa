"""Where one can come to over edges. Edges are a dict: for a node, the nodes one step further."""


# A loop over what is still to do, because a way may have as many steps as there are nodes.
def all_reached(edges, first):
    seen = {first: True}
    todo = [first]
    while todo:
        node = todo.pop()
        for further in edges.get(node, []):
            if further not in seen:
                seen[further] = True
                todo.append(further)
    return seen
