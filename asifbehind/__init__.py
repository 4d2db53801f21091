"""As if one behind another: can calls of one thing at once be explained by an order?"""
